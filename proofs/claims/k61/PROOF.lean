import PyProof.Rows.All
import HandS.ForMost
import HandS.ForExc
import HandS.SortKw
import HandS.SortRule
import HandS.DictTup
import HandS.DictComp
import HandS.ListItems
import HandS.Conv
import HandS.IsInst
import HandS.Codes
import HandS.Walk
import HandS.Style
import KE.KDictSum
import KE.KSortTupAny
import KE.KDictPairs
import HandS.ExcValue
import HandS.TupLe
import HandS.TupAny
import HandS.Wide
import HandS.SetFor
import PyProof.Rows.CountFlat
import PySem.Challenge.RW_knownends_k61_whole_questions_as_texts
import HandS.List
import PyProof.ReprRoads
import PyProof.ReprText
import PyProof.EqKinds
import PyProof.EqAt
import HandS.ExcField
import HandS.ExcInit
import PyProof.NeData
import HandS.ExcIs
import HandS.StrMore
import HandS.TryMany
import HandS.TupMul
import HandS.Ends
import HandS.Words
import KE.KRevSl
import HandS.Strs
import HandS.TupSets
import HandS.SetKeys
import HandS.Zip
import PyProof.WalksMore
import PyProof.FactsAll.subtypes_4
import HandS.Text
import KE.IntTextLaws
import PyProof.ReprLen
import PyProof.Walks
import PyProof.CollectIter
import HandS.Star
import HandS.RaiseMore
import PyProof.Rows.StrMul
set_option Elab.async false
set_option linter.all false
set_option maxRecDepth 100000
set_option maxHeartbeats 0
/-! own rules: sorted of pairs (text, int), of views -/
namespace SrtZ
open PySem PyProof.Rows Srt SrtO PySem.W
abbrev ltZ (x y : Str) : Bool := decide (x.cps.toList < y.cps.toList)
theorem str_of {x y : Str} (h : x.cps.toList = y.cps.toList) : x = y := by
  cases x; cases y
  simp at h
  rw [h]
theorem ltZ_irr (x : Str) : ltZ x x = false := decide_eq_false (List.lt_irrefl _)
theorem ltZ_asym {x y : Str} (h : ltZ x y = true) : ltZ y x = false := decide_eq_false (List.lt_asymm (of_decide_eq_true h))
theorem ltZ_trans {x y z : Str} (h : ltZ x y = true) (k : ltZ y z = true) : ltZ x z = true := decide_eq_true (List.lt_trans (of_decide_eq_true h) (of_decide_eq_true k))
theorem ltZ_tri {x y : Str} (h : ltZ x y = false) (k : ltZ y x = false) : x = y :=
  str_of (List.le_antisymm (List.not_lt.mp (of_decide_eq_false k)) (List.not_lt.mp (of_decide_eq_false h)))
def lexZ (p q : Str × Int) : Bool := if p.1 = q.1 then decide (p.2 < q.2) else ltZ p.1 q.1
theorem lexZ_eq {p q : Str × Int} (e : p.1 = q.1) : lexZ p q = decide (p.2 < q.2) := if_pos e
theorem lexZ_ne {p q : Str × Int} (e : ¬ p.1 = q.1) : lexZ p q = ltZ p.1 q.1 := if_neg e
theorem swo_Z : Swo lexZ := by
  refine ⟨fun x y h => ?_, fun x y z h1 h2 => ?_⟩
  · by_cases e : x.1 = y.1
    · rw [lexZ_eq e, decide_eq_true_eq] at h
      rw [lexZ_eq e.symm]
      exact decide_eq_false (by omega)
    · rw [lexZ_ne e] at h
      rw [lexZ_ne (fun z => e z.symm)]
      exact ltZ_asym h
  · by_cases e : x.1 = y.1
    · rw [lexZ_eq e.symm, decide_eq_false_iff_not] at h1
      by_cases f : y.1 = z.1
      · rw [lexZ_eq f.symm, decide_eq_false_iff_not] at h2
        rw [lexZ_eq (e.trans f).symm]
        exact decide_eq_false (by omega)
      · rw [lexZ_ne (fun q => f q.symm)] at h2
        rw [lexZ_ne (fun q => f (e.symm.trans q.symm)), e]
        exact h2
    · rw [lexZ_ne (fun q => e q.symm)] at h1
      by_cases f : y.1 = z.1
      · rw [lexZ_ne (fun q => e (q.symm.trans f.symm)), ← f]
        exact h1
      · rw [lexZ_ne (fun q => f q.symm)] at h2
        have g1 : ltZ x.1 y.1 = true := by
          rcases bcase (ltZ x.1 y.1) with q | q
          · exact q
          · exact absurd (ltZ_tri q h1) e
        have g2 : ltZ y.1 z.1 = true := by
          rcases bcase (ltZ y.1 z.1) with q | q
          · exact q
          · exact absurd (ltZ_tri q h2) f
        have g := ltZ_trans g1 g2
        have ne : ¬ z.1 = x.1 := fun q => by
          rw [q, ltZ_irr] at g
          cases g
        rw [lexZ_ne ne]
        exact ltZ_asym g
/-- a tuple (text, int) -/
def IsPZ (h : Heap) (v : Value) (p : Str × Int) : Prop := ∃ a o t u n, v = .ref a ∧ h.get? a = some o ∧ o.cls = .type "tuple" ∧ o.data = .seq #[.str p.1 t, .int p.2 u] n
theorem IsPZ.keeps {h h' : Heap} {v : Value} {p : Str × Int} (x : IsPZ h v p) (k : ∀ b o, h.get? b = some o → o.cls = .type "tuple" → h'.get? b = some o) : IsPZ h' v p := by
  obtain ⟨a, o, t, u, n, e, ho, hc, hd⟩ := x
  exact ⟨a, o, t, u, n, e, k _ _ ho hc, hc, hd⟩
section
variable {prog : Program} {w : World} {A : Around} {E : Value → Shared → Prop} {s : Shared}
theorem firstsZ {h : Heap} : ∀ {vs : List Value}, (∀ v ∈ vs, ∃ p, IsPZ h v p) → ∃ fs : List Value, KatTups h vs fs ∧ fs.length = vs.length ∧ ∀ f ∈ fs, ∃ x t, f = Value.str x t
  | [], _ => ⟨[], KatTups.nil, rfl, fun _ hm => by simp at hm⟩
  | v :: vs, hp => by
    obtain ⟨fs, h1, h2, h3⟩ := firstsZ (vs := vs) fun v' hm => hp v' (List.mem_cons_of_mem _ hm)
    obtain ⟨p, a, o, t, u, n, e, ho, hc, hd⟩ := hp v List.mem_cons_self
    subst e
    refine ⟨.str p.1 t :: fs, KatTups.cons ho hc hd rfl h1, by rw [List.length_cons, List.length_cons, h2], fun f hm => ?_⟩
    rcases List.mem_cons.mp hm with rfl | hm
    · exact ⟨_, t, rfl⟩
    · exact h3 f hm
theorem pairZ_cmp {vs : List Value} {k : Value → Str × Int} (hp : ∀ v ∈ vs, IsPZ s.heap v (k v)) : Cmp prog w A s (tuples' true) (fun p => p.1 ∈ vs) (lt2 fun v u => lexZ (k v) (k u)) := by
  intro p q hm hm'
  have h1 := hp _ hm
  have h2 := hp _ hm'
  show wpAny (model prog w) A (keyLt' (tuples' true) p.1 q.1) (fun r s' => s' = s ∧ r = lexZ (k p.1) (k q.1)) (fun _ _ => False) s
  generalize k p.1 = x at h1 ⊢
  generalize k q.1 = y at h2 ⊢
  obtain ⟨a, o, t, u, n, e, ho, hc, hd⟩ := h1
  obtain ⟨a', o', t', u', n', e', ho', hc', hd'⟩ := h2
  rw [e, e']
  refine kat_lt ho hd ho' hd' ?_
  show KatLex prog w A true (decide (2 < 2)) _ [(.str x.1 t, .str y.1 t'), (.int x.2 u, .int y.2 u')] 0 s
  refine kat_cons (wpAny_eqBool_str ?_)
  refine kat_go (fun e1 => ?_) (fun e1 => ?_)
  · have ex : x.1 = y.1 := of_decide_eq_true e1
    refine kat_yes (kat_cons (wpAny_eqBool_int ?_))
    refine kat_go (fun e2 => ?_) (fun e2 => ?_)
    · have ey : x.2 = y.2 := by simpa using e2
      refine kat_yes (kat_nil ⟨rfl, ?_⟩)
      rw [lexZ_eq ex, ey]
      exact (decide_eq_false (Int.lt_irrefl _)).symm
    · exact kat_no (oneLt_any_int ⟨rfl, (lexZ_eq ex).symm⟩)
  · have ex : ¬ x.1 = y.1 := of_decide_eq_false e1
    exact kat_no (oneLt_any_str ⟨rfl, (lexZ_ne ex).symm⟩)
theorem pairsZ_sortable {a : Addr} {vs : List Value} {k : Value → Str × Int} (h0 : 0 < vs.length) (hp : ∀ v ∈ vs, IsPZ s.heap v (k v)) (ha : ∀ o, s.heap.get? a = some o → o.cls ≠ .type "tuple") : SortableO prog w A s a vs fun v u => lexZ (k v) (k u) := by
  intro h' keep
  have hp' : ∀ v ∈ vs, IsPZ h' v (k v) := fun v hm => (hp v hm).keeps fun b o e c => keep b o (fun z => by subst z; exact ha o e c) e
  obtain ⟨fs, h1, h2, h3⟩ := firstsZ fun v hm => ⟨_, hp' v hm⟩
  refine ⟨tuples' true, fun Q E hq => ?_, pairZ_cmp hp'⟩
  refine kat_kind (T := .type "str") h1 (by omega) (fun f hm => ?_) (by rfl) ?_
  · obtain ⟨x, t, rfl⟩ := h3 f hm
    exact Looks.now
  · have e : (Value.type "str" != Value.type "tuple") = true := by first | decide +kernel | rfl | decide
    rw [e]
    exact hq
theorem plain_rev (a : Addr) : Builtin.«list.sort» ⟨[.ref a], []⟩ = Builtin.«list.sort» ⟨[.ref a], [(Str.ofString "reverse", .bool false)]⟩ := by
  rw [list_sort_rev]
  first | rfl | kernel_rfl
/-- sorted(x, ..) over what is collected of x -/
theorem sorted_col {x : Value} {b : Bool} {kw : List (Str × Value)} {ltv : Heap → Value → Value → Bool} {Q : Value → Shared → Prop} {P : Heap → Nat → List Value → Prop}
    (hk : ∀ a, Builtin.«list.sort» ⟨[.ref a], kw⟩ = Builtin.«list.sort» ⟨[.ref a], [(Str.ofString "reverse", .bool b)]⟩) (ha1 : argsOk "sorted" ⟨[x], kw⟩) (ha2 : ∀ a, argsOk "list.sort" ⟨[a], kw⟩)
    (hcol : ∀ R : List Value → Shared → Prop, (∀ h' tk vs, (∀ b o, s.heap.get? b = some o → h'.get? b = some o) → P h' tk vs → R vs { s with heap := h', toks := tk }) → wpAny (model prog w) A.in1 (collect x) R E s)
    (O : ∀ h' tk vs, P h' tk vs → Swo (ltv h')) (hz : ∀ h' tk vs, P h' tk vs → vs.length ≤ sizeLine)
    (hS : ∀ h' tk vs, P h' tk vs → 2 ≤ vs.length → ∀ (h₁ : Heap) (a : Addr), h₁.get? a = some (seqObj "list" vs.toArray 0) → (∀ b o, h'.get? b = some o → b ≠ a ∧ h₁.get? b = some o) → SortableO prog w A.in1.in1 { s with heap := h₁, toks := tk } a vs (ltv h'))
    (h : ∀ h' tk vs out h2, (∀ b o, s.heap.get? b = some o → h'.get? b = some o) → P h' tk vs → Srtd (ltv h') out → Stb (ltv h') out (if b = true then vs.reverse else vs) → (∀ c o, h'.get? c = some o → h2.get? c = some o) →
      (∃ n, h2.get? h'.objs.size = some (seqObj "list" (if b = true then out.toArray.reverse else out.toArray) n)) → Q (.ref h'.objs.size) { s with heap := h2, toks := tk }) :
    wpAny (model prog w) A (call (.builtin "sorted") [x] kw) Q E s := by
  refine call_function_entry_kw kind_sorted plain_sorted entry_sorted ha1 ?_
  unfold Builtin.«sorted»
  refine wpAny_bind (m := checkCount "sorted" 1 1 _) (wpAny_pure ?_)
  refine wpAny_bind (hcol _ fun h' tk vs hkp hP => ?_)
  refine wpAny_bind (wpAny_newList ?_ (hz _ _ _ hP))
  have hoL : (h'.push (seqObj "list" vs.toArray 0)).get? h'.objs.size = some (seqObj "list" vs.toArray 0) := Heap.get?_push_size _ rfl
  have keep : ∀ b o, h'.get? b = some o → b ≠ h'.objs.size ∧ (h'.push (seqObj "list" vs.toArray 0)).get? b = some o := fun b o q => ⟨Nat.ne_of_lt (Heap.lt_size q), Heap.get?_push_of_some _ q⟩
  show wpAny _ _ _ _ _ { s with heap := h'.push (seqObj "list" vs.toArray 0), toks := tk }
  refine wpAny_bind (wpAny_holding (wpAny_call_entry_kw slot_list_sort ⟨_, hoL, rfl⟩ entry_list_sort ?_ (ha2 _)))
  rw [hk]
  refine SrtR.list_sort_ordR (s := { s with heap := h'.push (seqObj "list" vs.toArray 0), toks := tk }) (O _ _ _ hP) hoL (hz _ _ _ hP) (fun h2 => hS _ _ _ hP h2 _ _ hoL keep) fun out hs hb => ⟨_, rfl, ?_⟩
  refine wpAny_pure ⟨_, rfl, h h' tk vs out _ hkp hP hs hb (fun c o q => ?_) ?_⟩
  · exact (sortedHeap_old (keep c o q).1 (Heap.lt_size (keep c o q).2)).trans (keep c o q).2
  · exact sortedHeap_at hoL
end
end SrtZ

namespace L2
open PySem PySem.Spec PyProof.Rows SrtO SrtZ
/-- counts as a dict's pairs -/
abbrev entZ (e : Str × Int) : Key × V := (Sum.inr e.1, V.int e.2)
section
variable {X : Cx}
/-- d.items() -/
def rItemsK : V → List V → Hp → VK → Prop := fun x xs H Q => ∃ (a : Addr) (kvs : List (Key × V)), x = .ref a ∧ xs = [] ∧ H a = some (.dK kvs) ∧ ∀ p, H p = none → Q (.ref p) (upd H p (DX.itemsO p a))
theorem mt_itemsK : MtR X "dict.items" rItemsK := by
  intro pins s σ H x xs v us Q I rx rxs h
  obtain ⟨a, kvs, rfl, rfl, ha, q⟩ := h
  cases rx
  cases rxs
  obtain ⟨z, hd, vs, kv, o, es, ep, ho, hx, hdat, _⟩ := dk_of I.hok ha
  refine DT.callItems (es := es) (ep := ep) hd ⟨o, ho, hx, hdat⟩ ?_
  have hf : H s.heap.objs.size = none := I.hok.fresh (Nat.le_refl _)
  exact ⟨.ref s.heap.objs.size, upd H s.heap.objs.size (DX.itemsO s.heap.objs.size a), I.laid (t' := s.toks) (fun b u e => Heap.get?_push_of_some _ e) (Nat.le_refl _) (DX.itemsO_ok (Heap.get?_push_size _ rfl)), rfl, q _ hf⟩
/-- d.values() -/
def valuesO (p d : Addr) : HO := .ext fun h => h.IsValuesView p d
theorem valuesO_ok {P : Program} {w : World} {H : Hp} {h : Heap} {p d : Addr} (e : h.get? p = some { cls := .type "dict_values", data := .fields #[.ref d] }) : ObjOk P w H h p (valuesO p d) :=
  ⟨⟨_, e, rfl, rfl⟩, ⟨_, e⟩, fun h1 h2 x k => let ⟨o, ho, r⟩ := x; ⟨o, k o ho, r⟩⟩
def rValuesK : V → List V → Hp → VK → Prop := fun x xs H Q => ∃ (a : Addr) (kvs : List (Key × V)), x = .ref a ∧ xs = [] ∧ H a = some (.dK kvs) ∧ ∀ p, H p = none → Q (.ref p) (upd H p (valuesO p a))
theorem mt_valuesK : MtR X "dict.values" rValuesK := by
  intro pins s σ H x xs v us Q I rx rxs h
  obtain ⟨a, kvs, rfl, rfl, ha, q⟩ := h
  cases rx
  cases rxs
  obtain ⟨z, hd, vs, kv, dd⟩ := dk_of I.hok ha
  have hf : H s.heap.objs.size = none := I.hok.fresh (Nat.le_refl _)
  refine call_meetsIn PySem.F.slot_dict_values dd.typeIs PySem.F.entry_dict_values (PySem.F.args_dict_values_1 _) (meets_dict_values (mixKind X.prog X.w) a hd) ⟨⟨vs, dd⟩, ?_⟩
  exact ⟨.ref s.heap.objs.size, upd H s.heap.objs.size (valuesO s.heap.objs.size a), I.laid (t' := s.toks) (fun b u e => Heap.get?_push_of_some _ e) (Nat.le_refl _) (valuesO_ok (Heap.get?_push_size _ rfl)), rfl, q _ hf⟩
end
end L2

namespace L2
open PySem PySem.Spec PyProof.Rows SrtO SrtZ
theorem ent_paired {xs' : List (Key × Value)} : ∀ {ks : List (Str × Int)}, KV (ks.map entZ) xs' → ∀ {j : Nat} {x : Key × Value}, xs'[j]? = some x → ∃ e t, ks[j]? = some e ∧ x = (Sum.inr e.1, Value.int e.2 t) := fun {ks} h {j x} hx => by
  obtain ⟨y, hy, r1, r2⟩ := DX.pget h hx
  rw [List.getElem?_map] at hy
  cases e : ks[j]? with
  | none => rw [e] at hy; cases hy
  | some p =>
    rw [e] at hy
    have hy' : entZ p = y := Option.some.inj hy
    subst hy'
    obtain ⟨t, et⟩ := (show ∃ t, x.2 = Value.int p.2 t from r2)
    refine ⟨p, t, rfl, ?_⟩
    obtain ⟨x1, x2⟩ := x
    have r1' : Sum.inr p.1 = x1 := r1
    have et' : x2 = Value.int p.2 t := et
    rw [← r1', et']
section
variable {X : Cx}
/-- sorted(d.items()), keys texts, values ints, any number of them -/
def rSortedIZ : List V → Hp → VK → Prop := fun vs H Q => ∃ (p d : Addr) (ks : List (Str × Int)), vs = [V.ref p] ∧ H p = some (DX.itemsO p d) ∧ H d = some (.dK (ks.map entZ)) ∧
  ∀ (H' : Hp) (l : Addr) (ys : List (Str × Int)) (ts : List Addr), Same H H' → H l = none → (∀ t ∈ ts, H t = none) → l ∉ ts → ys.Perm ks → Srtd lexZ ys → H' l = some (.lst (ts.map V.ref)) → Paired (fun (t : Addr) (y : Str × Int) => H' t = some (.tup [.str y.1, .int y.2])) ts ys → Q (.ref l) H'
theorem paired_of {α β : Type} {F : α → β → Prop} {l : List (α × β)} (h : ∀ z ∈ l, F z.1 z.2) : Paired F (l.map (·.1)) (l.map (·.2)) := by
  induction l with
  | nil => exact .nil
  | cons a l ih => exact .cons (h a List.mem_cons_self) (ih fun z hz => h z (List.mem_cons_of_mem _ hz))
/-- a tuple's key, read off the heap -/
def keyZ (h : Heap) : Value → Str × Int
  | .ref a => match h.get? a with
    | some o => match o.data with
      | .seq xs _ => match xs.toList with
        | [.str x _, .int y _] => (x, y)
        | _ => (⟨#[]⟩, 0)
      | _ => (⟨#[]⟩, 0)
    | none => (⟨#[]⟩, 0)
  | _ => (⟨#[]⟩, 0)
theorem keyZ_of {h : Heap} {v : Value} {p : Str × Int} (x : IsPZ h v p) : keyZ h v = p := by
  obtain ⟨a, o, t, u, n, rfl, ho, hc, hd⟩ := x
  simp only [keyZ, ho, hd]
theorem swo_key (h : Heap) : Swo fun v u => lexZ (keyZ h v) (keyZ h u) := ⟨fun x y => swo_Z.asym _ _, fun x y z => swo_Z.tr _ _ _⟩
def adr : Value → Addr
  | .ref a => a
  | _ => 0
theorem adr_refs : ∀ as : List Addr, (as.map Value.ref).map adr = as
  | [] => rfl
  | a :: as => congrArg (List.cons a) (adr_refs as)
theorem refs_adr : ∀ out : List Value, (∀ v ∈ out, ∃ a, v = Value.ref a) → (out.map adr).map Value.ref = out
  | [], _ => rfl
  | v :: out, h => by
    obtain ⟨a, rfl⟩ := h v List.mem_cons_self
    show Value.ref a :: (out.map adr).map Value.ref = Value.ref a :: out
    rw [refs_adr out fun u hu => h u (List.mem_cons_of_mem _ hu)]
/-- pairs that were laid and sorted are tracked: a list of them at l, the tuples at ts -/
theorem sortZ_end {pins : List (Addr × Obj)} {σ : St} {H : Hp} {s : Shared} {h' h2 : Heap} {tk l n : Nat} {as : List Addr} {ks : List (Str × Int)} {out : List Value} {Q : VK} (I : Inv X pins σ H s)
    (hk : ∀ b o, s.heap.get? b = some o → h'.get? b = some o) (hk2 : ∀ b o, h'.get? b = some o → h2.get? b = some o) (hl : s.heap.objs.size ≤ l) (hle : as.length ≤ sizeLine) (hlas : ∀ t ∈ as, t ≠ l) (nd : as.Nodup) (ha : ∀ t ∈ as, s.heap.objs.size ≤ t) (hn : H l = none)
    (hks : as.map (fun t => keyZ h' (.ref t)) = ks) (hp : ∀ t ∈ as, ∃ p, IsPZ h' (.ref t) p) (hat : h2.get? l = some (seqObj "list" out.toArray n)) (h1 : Srtd (fun v u => lexZ (keyZ h' v) (keyZ h' u)) out) (hb : out.Perm (as.map Value.ref))
    (q : ∀ (H' : Hp) (ys : List (Str × Int)) (ts : List Addr), Same H H' → H l = none → (∀ t ∈ ts, H t = none) → l ∉ ts → ys.Perm ks → Srtd lexZ ys → H' l = some (.lst (ts.map V.ref)) → Paired (fun (t : Addr) (y : Str × Int) => H' t = some (.tup [.str y.1, .int y.2])) ts ys → Q (.ref l) H') :
    EP X pins σ Q (.ref l) { s with heap := h2, toks := tk } := by
  have isr : ∀ v ∈ out, ∃ a, v = Value.ref a := fun v hv => by
    obtain ⟨a, _, e⟩ := List.mem_map.mp (hb.mem_iff.mp hv)
    exact ⟨a, e.symm⟩
  have eo := refs_adr out isr
  generalize ets : out.map adr = ts at eo
  have pt : ts.Perm as := by
    have := hb.map adr
    rwa [adr_refs, ets] at this
  have kS : ∀ b o, s.heap.get? b = some o → h2.get? b = some o := fun b o e => hk2 b o (hk b o e)
  have I1 : Inv X pins σ H { s with heap := h2, toks := tk } := I.kept (t' := tk) kS
  have hlen : (ts.map V.ref).length ≤ sizeLine := by rw [List.length_map, pt.length_eq]; exact hle
  have rv : Vals (ts.map V.ref) out := by
    rw [← eo]
    exact LiI.vals_refs ts
  have I2 : Inv X pins σ (upd H l (.lst (ts.map V.ref))) { s with heap := h2, toks := tk } := I1.take (h' := h2) (t' := tk) (fun b ob _ e => e) (I.fpOk hl hn) ⟨hlen, out, n, rv, hat⟩
  obtain ⟨H2, I3, g, qt⟩ := DX.takeT (P := fun b vs => vs = [.str (keyZ h' (.ref b)).1, .int (keyZ h' (.ref b)).2]) I as _ I2 nd fun b hb' => by
    obtain ⟨p, hp'⟩ := hp b hb'
    have ek := keyZ_of hp'
    obtain ⟨a, o, t, u, m, e, ho, hc, hd⟩ := hp'
    cases e
    refine ⟨ha b hb', ?_, [.str (keyZ h' (.ref b)).1, .int (keyZ h' (.ref b)).2], rfl, fun H3 => ⟨(by rw [sizeLine_eq]; show 2 ≤ 16777216; omega), [Value.str p.1 t, Value.int p.2 u], by rw [ek]; exact .cons ⟨_, rfl⟩ (.cons ⟨_, rfl⟩ .nil), ⟨o, hk2 _ _ ho, hc, m, hd⟩⟩⟩
    rw [upd_ne (hlas b hb')]
    exact I.hok.fresh (ha b hb')
  have gr : Same H H2 := fun b o e => g b o (by rw [upd_ne (ne_of_none e hn)]; exact e)
  refine ⟨.ref l, H2, I3, rfl, q H2 (ts.map fun t => keyZ h' (.ref t)) ts gr hn (fun t ht => I.hok.fresh (ha t (pt.mem_iff.mp ht))) (fun z => hlas l (pt.mem_iff.mp z) rfl) ?_ ?_ (g _ _ upd_same) ?_⟩
  · rw [← hks]
    exact pt.map _
  · have e : ts.map (fun t => keyZ h' (.ref t)) = out.map (keyZ h') := by
      rw [← eo, List.map_map]
      rfl
    rw [e]
    exact srtd_map h1
  · have : ∀ L : List Addr, (∀ t ∈ L, t ∈ as) → Paired (fun (t : Addr) (y : Str × Int) => H2 t = some (.tup [.str y.1, .int y.2])) L (L.map fun t => keyZ h' (.ref t)) := by
      intro L
      induction L with
      | nil => exact fun _ => .nil
      | cons t L ih =>
        intro hL
        refine .cons ?_ (ih fun u hu => hL u (List.mem_cons_of_mem _ hu))
        obtain ⟨vs, ev, hv⟩ := qt t (hL t List.mem_cons_self)
        rw [← ev]
        exact hv
    exact this ts fun t ht => pt.mem_iff.mp ht
theorem cr_sortedIZ (hc : X.calm = true) : CallR X (.builtin "sorted") rSortedIZ := by
  intro pins s σ H xs us Q I r h
  obtain ⟨p, a, ks, rfl, hp, ha, q⟩ := h
  obtain rfl := Vals.ref1 r
  have view : s.heap.IsItemsView p a := (show ObjOk X.prog X.w H s.heap p (DX.itemsO p a) from I.hok p _ hp).1
  obtain ⟨z, hd, xs', rel, o, es, ep, ho, hx, hdat, _, hes, _⟩ := dk_of I.hok ha
  have l1 : ks.length = xs'.length := by
    have := Paired.length rel
    rwa [List.length_map] at this
  have l2 : es.size = xs'.length := by rw [← Array.length_toList, hes.length]
  have hh : X.A.handled = none := I.ok.hd hc
  have hz : es.size ≤ sizeLine := by rw [List.length_map] at z; omega
  have ent : ∀ (j : Nat) (en : DictEntry), es[j]? = some en → ∃ e t u, ks[j]? = some e ∧ en.key = Value.str e.1 t ∧ en.val = Value.int e.2 u := by
    intro j en he
    have he' : es.toList[j]? = some en := by rw [Array.getElem?_toList]; exact he
    have pz : ∀ {es : List DictEntry} {kvs : List (Key × Value)}, Pairs (mixKind X.prog X.w) es kvs → ∀ {j : Nat} {en : DictEntry}, es[j]? = some en → ∃ x, kvs[j]? = some x ∧ keyIs x.1 en.key = true ∧ en.val = x.2 := by
      intro es kvs h
      induction h with
      | nil => intro j en h; simp at h
      | cons h1 h2 h3 ih =>
        intro j en h
        cases j with
        | zero => cases (Option.some.inj h); exact ⟨_, rfl, h1, h2⟩
        | succ j => exact ih (by simpa using h)
    obtain ⟨x, ex, k1, k2⟩ := pz hes he'
    obtain ⟨e, t, e1, e2⟩ := ent_paired rel ex
    subst e2
    obtain ⟨u, eu⟩ := relV_key k1
    exact ⟨e, u, t, e1, eu, k2⟩
  refine sorted_col (x := .ref p) (b := false) (kw := []) (ltv := fun h' v u => lexZ (keyZ h' v) (keyZ h' u)) (P := fun h' _ vs => ∃ as, vs = as.map Value.ref ∧ as.length = es.size ∧ DT.Made es s.heap.objs.size h' as ∧ s.heap.objs.size < h'.objs.size)
    plain_rev (args_sorted1 _) (fun _ => args_list_sort _) (fun R hR => ?_) (fun h' _ _ _ => swo_key h') (fun h' _ vs hP => ?_) (fun h' tk vs hP h2 h₁ b hb keep => ?_) (fun h' tk vs out h2 hk hP h1 hb hk2 hat => ?_)
  · exact DT.collectI (A := X.A.in1) hh view ⟨o, ho, hx, hdat⟩ hz fun h' tk as hk hlt hl hM => hR h' tk _ hk ⟨as, rfl, hl, hM, hlt⟩
  · obtain ⟨as, rfl, hl, _⟩ := hP
    rw [List.length_map, hl]
    exact hz
  · obtain ⟨as, rfl, hl, hM, _⟩ := hP
    refine pairsZ_sortable (s := { s with heap := h₁, toks := tk }) (k := keyZ h') (by omega) (fun v hv => ?_) (fun ob e => ?_)
    · obtain ⟨t, ht, rfl⟩ := List.mem_map.mp hv
      obtain ⟨j, hj⟩ := List.mem_iff_getElem?.mp ht
      obtain ⟨en, he, hg⟩ := hM.pairs j t hj
      obtain ⟨e, t1, t2, _, k1, k2⟩ := ent j en he
      have x : IsPZ h' (.ref t) e := ⟨t, _, t1, t2, 0, rfl, hg, rfl, by rw [k1, k2]⟩
      rw [keyZ_of x]
      exact x.keeps fun b o e _ => (keep b o e).2
    · have e' : some ob = some (seqObj "list" (as.map Value.ref).toArray 0) := e.symm.trans hb
      cases e'
      intro c
      exact absurd (Value.type.inj c) (by decide)
  · obtain ⟨as, rfl, hl, hM, hlt⟩ := hP
    obtain ⟨n, hat⟩ := hat
    have pz : ∀ (j : Nat) (t : Addr), as[j]? = some t → ∃ e, ks[j]? = some e ∧ IsPZ h' (.ref t) e := fun j t hj => by
      obtain ⟨en, he, hg⟩ := hM.pairs j t hj
      obtain ⟨e, t1, t2, e1, k1, k2⟩ := ent j en he
      exact ⟨e, e1, t, _, t1, t2, 0, rfl, hg, rfl, by rw [k1, k2]⟩
    refine sortZ_end (as := as) (ks := ks) I hk hk2 (Nat.le_of_lt hlt) (by rw [hl]; exact hz) (fun t ht => Nat.ne_of_lt (hM.there ht)) (List.Pairwise.imp (fun h => Nat.ne_of_lt h) hM.rise) (fun t ht => Nat.le_of_lt (hM.above t ht)) (I.hok.fresh (Nat.le_of_lt hlt)) ?_ (fun t ht => ?_) hat h1 hb.perm fun H' ys ts => q H' _ ys ts
    · refine List.ext_getElem? fun j => ?_
      rw [List.getElem?_map]
      cases hj : as[j]? with
      | none =>
        have : ks[j]? = none := List.getElem?_eq_none (by have := List.getElem?_eq_none_iff.mp hj; omega)
        rw [this]
        rfl
      | some t =>
        obtain ⟨e, e1, x⟩ := pz j t hj
        rw [e1]
        show some (keyZ h' (.ref t)) = some e
        rw [keyZ_of x]
    · obtain ⟨j, hj⟩ := List.mem_iff_getElem?.mp ht
      obtain ⟨e, _, x⟩ := pz j t hj
      exact ⟨e, x⟩
end
end L2

namespace SrtZ
open PySem PyProof.Rows Srt SrtO PySem.W
def ltSv (v u : Value) : Bool := ltZ (strOf v) (strOf u)
theorem swo_str : Swo ltSv := by
  refine ⟨fun x y h => ltZ_asym h, fun x y z h1 h2 => ?_⟩
  rcases bcase (ltZ (strOf z) (strOf x)) with q | q
  · rcases bcase (ltZ (strOf x) (strOf y)) with p | p
    · rcases bcase (ltZ (strOf y) (strOf z)) with r | r
      · have := ltZ_asym (ltZ_trans p r)
        rw [q] at this
        cases this
      · have e := ltZ_tri r h2
        have q' : ltZ (strOf z) (strOf x) = true := q
        rw [← e, ltZ_asym p] at q'
        cases q'
    · have e := ltZ_tri p h1
      have q' : ltZ (strOf z) (strOf x) = true := q
      have h2' : ltZ (strOf z) (strOf y) = false := h2
      rw [e, h2'] at q'
      cases q'
  · exact q
theorem strOf_strs : ∀ {vs : List Value} {ss : List Str}, StrsAre vs ss → vs.map strOf = ss
  | _, _, .nil => rfl
  | _, _, .cons y t h => congrArg (y :: ·) (strOf_strs h)
section
variable {prog : Program} {w : World} {A : Around} {E : Value → Shared → Prop} {s : Shared}
theorem str_cmp {vs : List Value} {ss : List Str} (hI : StrsAre vs ss) : Cmp prog w A s oneType' (fun p => p.1 ∈ vs) (lt2 ltSv) := by
  intro p q hm hm'
  obtain ⟨a, t, e⟩ := StrsAre.all hI _ hm
  obtain ⟨b, u, e'⟩ := StrsAre.all hI _ hm'
  show wpAny (model prog w) A (keyLt' oneType' p.1 q.1) (fun r s' => s' = s ∧ r = ltSv p.1 q.1) (fun _ _ => False) s
  rw [e, e', keyLt'_oneType]
  exact oneLt_any_str ⟨rfl, rfl⟩
theorem strs_sortable {a : Addr} {vs : List Value} {ss : List Str} (hI : StrsAre vs ss) (h2 : 2 ≤ vs.length) : SortableO prog w A s a vs ltSv := by
  intro h' _
  refine ⟨oneType', fun Q E hq => ?_, str_cmp hI⟩
  match vs, hI, h2 with
  | v1 :: v2 :: rest, hI, _ =>
    rw [keyKind_strs hI]
    exact wpAny_pure hq
  | [], _, h => exact absurd h (by decide)
  | [v], _, h => exact absurd h (by simp)
end
end SrtZ
namespace L2
open PySem PySem.Spec PyProof.Rows SrtO SrtZ
section
variable {X : Cx}
/-- sorted(xs), xs a list of tuples (text, int), any number of them -/
def rSortedPZ (K : PySem.W.Frag) : List V → Hp → VK → Prop := fun vs H Q => ∃ (a : Addr) (ts : List Addr) (k : Addr → Str × Int), vs = [V.ref a] ∧ SqL K H a (ts.map V.ref) ∧ (∀ t ∈ ts, H t = some (.tup [.str (k t).1, .int (k t).2])) ∧
  ∀ (us : List Addr) (p : Addr), us.Perm ts → Srtd lexZ (us.map k) → H p = none → Q (.ref p) (upd H p (.lst (us.map V.ref)))
theorem cr_sortedPZ : CallR X (.builtin "sorted") (rSortedPZ X.K) := by
  intro pins s σ H vs us Q I r h
  obtain ⟨a, ts, k, rfl, hs, hx, q⟩ := h
  obtain ⟨its, rv, hl, hz⟩ := I.list hs
  obtain rfl := Vals.ref1 r
  obtain rfl := refs_at rv
  rw [List.length_map] at hz
  have hp : ∀ v ∈ ts.map Value.ref, IsPZ s.heap v (k (adr v)) := fun v hv => by
    obtain ⟨t, ht, rfl⟩ := List.mem_map.mp hv
    obtain ⟨_, its2, r2, o, ho, hc, n, hd⟩ := I.hok _ _ (hx t ht)
    obtain ⟨u1, u2, rfl, ri, rj⟩ := vals2 r2
    obtain ⟨t1, rfl⟩ := ri
    obtain ⟨t2, rfl⟩ := rj
    exact ⟨t, o, t1, t2, n, rfl, ho, hc, hd⟩
  refine SrtO.sorted_ord (ltv := fun v u => lexZ (k (adr v)) (k (adr u))) ⟨fun x y => swo_Z.asym _ _, fun x y z => swo_Z.tr _ _ _⟩ hl.isList (by rw [List.length_map]; exact hz) (fun h2 h₁ b hb kk => ?_) fun out h1 h2 => ?_
  · refine pairsZ_sortable (s := { s with heap := h₁ }) (k := fun v => k (adr v)) (by omega) (fun v hv => (hp v hv).keeps fun b o e _ => (kk b o e).2) fun o e => ?_
    have e' : some o = some (seqObj "list" (ts.map Value.ref).toArray 0) := e.symm.trans hb
    cases e'
    intro c
    exact absurd (Value.type.inj c) (by decide)
  · obtain ⟨ep, he'⟩ := PyProof.Rows.sortedAll_at s.heap (ts.map Value.ref) out.toArray
    have isr : ∀ v ∈ out, ∃ a, v = Value.ref a := fun v hv => by
      obtain ⟨a, _, e⟩ := List.mem_map.mp (h2.perm.mem_iff.mp hv)
      exact ⟨a, e.symm⟩
    have eo := refs_adr out isr
    generalize eus : out.map adr = us at eo
    have pt : us.Perm ts := by
      have := h2.perm.map adr
      rwa [adr_refs, eus] at this
    have hlen : (us.map V.ref).length ≤ sizeLine := by rw [List.length_map, pt.length_eq]; exact hz
    have rv : Vals (us.map V.ref) out := by
      rw [← eo]
      exact LiI.vals_refs us
    refine ⟨.ref _, upd H (s.heap.objs.size + 1) (.lst (us.map V.ref)), I.laid (t' := s.toks) (fun _ _ => PyProof.Rows.sortedAll_old) (Nat.le_succ _) ⟨hlen, out, ep, rv, he'⟩, rfl, q us _ pt ?_ (I.hok.fresh (Nat.le_succ _))⟩
    have e : us.map k = out.map fun v => k (adr v) := by
      rw [← eo, List.map_map]
      rfl
    rw [e]
    exact srtd_map h1
/-- the ints of a dict's values -/
theorem vals_ints' {xs' : List (Key × Value)} : ∀ {ks : List (Str × Int)}, KV (ks.map entZ) xs' → ∀ {vs : List Value}, vs.length = xs'.length → (∀ (j : Nat) (v : Value), vs[j]? = some v → ∃ k, xs'[j]? = some (k, v)) → IntsAre vs (ks.map (·.2)) := fun {ks} rel {vs} hl hv => by
  have e : vs = xs'.map (·.2) := PySem.W.kdl_vals_eq vs hl hv
  subst e
  have : ∀ {ks : List (Str × Int)} {xs : List (Key × Value)}, KV (ks.map entZ) xs → IntsAre (xs.map (·.2)) (ks.map (·.2)) := by
    intro ks
    induction ks with
    | nil =>
      intro xs r
      cases r
      exact .nil
    | cons e ks ih =>
      intro xs r
      cases r with
      | cons h t =>
        obtain ⟨u, eu⟩ := (show ∃ t, _ = Value.int e.2 t from h.2)
        rw [List.map_cons, eu]
        exact .cons _ _ (ih t)
  exact this rel
/-- sorted(d.values(), reverse=b), values ints -/
def rSortedVR (b : Bool) : List V → List V → Hp → VK → Prop := fun vs zs H Q => ∃ (p d : Addr) (ks : List (Str × Int)), vs = [V.ref p] ∧ zs = [.bl b] ∧ H p = some (valuesO p d) ∧ H d = some (.dK (ks.map entZ)) ∧
  ∀ (ns : List Int) (l : Addr), ns.Perm (ks.map (·.2)) → OrdB b ns → H l = none → Q (.ref l) (upd H l (.lst (ns.map V.int)))
theorem cr_sortedVR {b : Bool} (hc : X.calm = true) : CallRK X (.builtin "sorted") [Str.ofString "reverse"] (rSortedVR b) := by
  intro pins s σ H vs zs us ws Q I r rz h
  obtain ⟨p, d, ks, rfl, rfl, hp, ha, q⟩ := h
  obtain rfl := Vals.ref1 r
  obtain ⟨w1, rfl, e1⟩ := vals1 rz
  obtain rfl : w1 = Value.bool b := e1
  have view : s.heap.IsValuesView p d := (show ObjOk X.prog X.w H s.heap p (valuesO p d) from I.hok p _ hp).1
  obtain ⟨z, hd, xs', rel, dd⟩ := dk_of I.hok ha
  obtain ⟨ep, hat⟩ := dd.dictAt
  have l1 : ks.length = xs'.length := by
    have := Paired.length rel
    rwa [List.length_map] at this
  have hz : xs'.length ≤ sizeLine := by rw [List.length_map] at z; omega
  refine sorted_col (x := .ref p) (b := b) (kw := [(Str.ofString "reverse", .bool b)]) (ltv := fun _ => SrtO.ltIv) (P := fun h' _ vs => IntsAre vs (ks.map (·.2)))
    (fun _ => rfl) (args_sorted_rev _ _) (fun _ => args_list_sort_rev _ _) (fun R hR => ?_) (fun _ _ _ _ => SrtO.swo_int) (fun h' _ vs hP => ?_) (fun h' tk vs hP h2 h₁ c hb keep => ?_) (fun h' tk vs out h2 hk hP h1 hb hk2 hat => ?_)
  · refine PySem.W.kdu_collect (A := X.A.in1) (PySem.W.kdl_values (knd := mixKind X.prog X.w) (kvs := xs') (ep := ep) (r := p) (d := d)) (I.ok.hd hc) ⟨view, hat⟩ hz fun h' tk acc hk hacc => hR h' tk _ hk (vals_ints' rel (by rw [Array.length_toList]; exact hacc.1) fun j v e => hacc.2 j v (by rw [← Array.getElem?_toList]; exact e))
  · rw [hP.length, List.length_map, l1]
    exact hz
  · exact SrtO.ints_sortable hP h2
  · obtain ⟨n, hat⟩ := hat
    obtain ⟨ns', k1, k2, k3⟩ := SrtR.ints_outR hP h1 hb
    have hlen : (ns'.map V.int).length ≤ sizeLine := by
      rw [List.length_map, k2.length_eq, List.length_map, l1]
      exact hz
    have e0 : ((if b = true then out.toArray.reverse else out.toArray).toList).toArray = (if b = true then out.toArray.reverse else out.toArray) := by rw [Array.toArray_toList]
    have gone : s.heap.get? h'.objs.size = none := by
      cases e : s.heap.get? h'.objs.size with
      | none => rfl
      | some o => exact absurd (Heap.lt_size (hk _ _ e)) (Nat.lt_irrefl _)
    have hn := I.hok.gone gone
    exact ⟨.ref h'.objs.size, upd H h'.objs.size (.lst (ns'.map V.int)), I.laidN (t' := tk) (fun c o e => hk2 c o (hk c o e)) gone hn ⟨hlen, _, n, vals_of_ints k1, by rw [e0]; exact hat⟩, rfl, q _ _ k2 k3 hn⟩
/-- sorted(d), keys texts, any number of them -/
def rSortedDS : List V → Hp → VK → Prop := fun vs H Q => ∃ (d : Addr) (kvs : List (Key × V)) (ss : List Str), vs = [V.ref d] ∧ H d = some (.dK kvs) ∧ kvs.map (·.1) = ss.map Sum.inr ∧
  ∀ (ys : List Str) (l : Addr), ys.Perm ss → Srtd ltZ ys → H l = none → Q (.ref l) (upd H l (.lst (ys.map V.str)))
theorem keys_strs {P : Program} {w : World} {xs' : List (Key × Value)} : ∀ {kvs : List (Key × V)} {ss : List Str}, KV kvs xs' → kvs.map (·.1) = ss.map Sum.inr → ∀ {vs : List Value}, vs.length = xs'.length → (∀ (j : Nat) (v : Value), vs[j]? = some v → ∃ k x, xs'[j]? = some (k, x) ∧ (mixKind P w).is k v = true) → StrsAre vs ss := fun {kvs ss} rel hk {vs} hl hv => by
  have : ∀ {kvs : List (Key × V)} {ss : List Str} {xs : List (Key × Value)} {vs : List Value}, KV kvs xs → kvs.map (·.1) = ss.map Sum.inr → vs.length = xs.length → (∀ (j : Nat) (v : Value), vs[j]? = some v → ∃ k x, xs[j]? = some (k, x) ∧ (mixKind P w).is k v = true) → StrsAre vs ss := by
    intro kvs
    induction kvs with
    | nil =>
      intro ss xs vs r hk hl hv
      cases r
      cases ss with
      | nil =>
        have : vs = [] := List.eq_nil_of_length_eq_zero hl
        subst this
        exact .nil
      | cons _ _ => cases hk
    | cons kv kvs ih =>
      intro ss xs vs r hk hl hv
      cases r with
      | cons h t =>
        cases ss with
        | nil => cases hk
        | cons z ss =>
          cases vs with
          | nil => simp at hl
          | cons v vs =>
            rw [List.map_cons, List.map_cons] at hk
            obtain ⟨h1, h2⟩ := List.cons.inj hk
            obtain ⟨k, x, e1, e2⟩ := hv 0 v rfl
            have e1' := (Prod.mk.inj (Option.some.inj e1)).1
            have kk : k = Sum.inr z := by rw [← e1', ← h.1, h1]
            subst kk
            obtain ⟨u, eu⟩ := relV_key (show keyIs (Sum.inr z) v = true from e2)
            subst eu
            exact .cons _ _ (ih t h2 (by simpa using hl) fun j v' e => hv (j + 1) v' (by simpa using e))
  exact this rel hk hl hv
theorem cr_sortedDS (hc : X.calm = true) : CallR X (.builtin "sorted") rSortedDS := by
  intro pins s σ H xs us Q I r h
  obtain ⟨d, kvs, ss, rfl, ha, hks, q⟩ := h
  obtain rfl := Vals.ref1 r
  obtain ⟨z, hd, xs', rel, dd⟩ := dk_of I.hok ha
  obtain ⟨ep, hat⟩ := dd.dictAt
  have l1 : kvs.length = xs'.length := Paired.length rel
  have hz : xs'.length ≤ sizeLine := by omega
  refine sorted_col (x := .ref d) (b := false) (kw := []) (ltv := fun _ => ltSv) (P := fun _ _ vs => StrsAre vs ss)
    plain_rev (args_sorted1 _) (fun _ => args_list_sort _) (fun R hR => ?_) (fun _ _ _ _ => swo_str) (fun h' _ vs hP => ?_) (fun h' tk vs hP h2 h₁ c hb keep => strs_sortable hP h2) (fun h' tk vs out h2 hk hP h1 hb hk2 hat => ?_)
  · refine PySem.W.kdu_collect (A := X.A.in1) (PySem.W.kdl_dict (knd := mixKind X.prog X.w) (kvs := xs') (ep := ep) (d := d) hd) (I.ok.hd hc) hat hz fun h' tk acc hk hacc => hR h' tk _ hk (keys_strs rel hks (by rw [Array.length_toList]; exact hacc.1) fun j v e => hacc.2 j v (by rw [← Array.getElem?_toList]; exact e))
  · rw [hP.length, ← List.length_map (f := (Sum.inr : Str → Key)), ← hks, List.length_map]
    omega
  · obtain ⟨n, hat⟩ := hat
    have isS : ∀ v ∈ out, ∃ x t, v = Value.str x t := fun v hv => StrsAre.all hP v (hb.perm.mem_iff.mp hv)
    have kp : (out.map strOf).Perm ss := by
      have := hb.perm.map strOf
      rwa [if_neg (by decide), strOf_strs hP] at this
    have hlen : ((out.map strOf).map V.str).length ≤ sizeLine := by
      rw [List.length_map, kp.length_eq, ← List.length_map (f := (Sum.inr : Str → Key)), ← hks, List.length_map]
      omega
    have gone : s.heap.get? h'.objs.size = none := by
      cases e : s.heap.get? h'.objs.size with
      | none => rfl
      | some o => exact absurd (Heap.lt_size (hk _ _ e)) (Nat.lt_irrefl _)
    have hn := I.hok.gone gone
    exact ⟨.ref h'.objs.size, upd H h'.objs.size (.lst ((out.map strOf).map V.str)), I.laidN (t' := tk) (fun c o e => hk2 c o (hk c o e)) gone hn ⟨hlen, out, n, vals_of_strs (strsAre_map out isS), hat⟩, rfl, q _ _ kp (srtd_map h1) hn⟩
/-! plain tuples: such of which no attributes are held -/
def Ptp (H : Hp) (a : Addr) (xs : List V) : Prop := ∃ o : Obj, H a = some (.frz o (.tup xs)) ∧ o.dict = none
theorem Ptp.seq {K : PySem.W.Frag} {H : Hp} {a : Addr} {xs : List V} (h : Ptp H a xs) : SqT K H a xs := let ⟨o, e, _⟩ := h; .inl (.inr ⟨o, e⟩)
theorem Ptp.same {H H' : Hp} {a : Addr} {xs : List V} (h : Ptp H a xs) (s : Same H H') : Ptp H' a xs := let ⟨o, e, d⟩ := h; ⟨o, s _ _ e, d⟩
theorem Ptp.ne {H : Hp} {a p : Addr} {xs : List V} (h : Ptp H a xs) (hp : H p = none) : a ≠ p := let ⟨o, e, _⟩ := h; ne_of_none e hp
theorem Ptp.upd {H : Hp} {a p : Addr} {xs : List V} {u : HO} (h : Ptp H a xs) (n : a ≠ p) : Ptp (L2.upd H p u) a xs := let ⟨o, e, d⟩ := h; ⟨o, by rw [upd_ne n]; exact e, d⟩
/-- (a, b, ..), a plain tuple -/
def tTupF (t : TA) : TE := fun σ H Q => t σ H fun xs H1 => xs.length ≤ sizeLine ∧ ∀ p o, H1 p = none → o.dict = none → Q (.ref p) (upd H1 p (.frz o (.tup xs)))
theorem pe_tupF {x1} {es : List Expr} {t : TA} {pos : Pos} (h : PA X es t) : PE X (.Tuple es x1 pos) (tTupF t) := by
  refine ⟨fun pins s σ H Q I hq => ?_⟩
  refine wpAny_Tuple_spliced (thn (h.run pos pins s σ H _ I hq) fun us s1 ⟨xs, H1, I1, r, z, q⟩ => ⟨by rw [← r.length]; exact z, ?_⟩)
  have hf : H1 s1.heap.objs.size = none := I1.hok.fresh (Nat.le_refl _)
  refine ⟨.ref s1.heap.objs.size, _, I1.laid (t' := s1.toks) (fun b u e => Heap.get?_push_of_some _ e) (Nat.le_refl _) ?_, rfl, q _ { cls := .type "tuple", data := .seq us.toArray } hf rfl⟩
  exact ⟨Heap.get?_push_size _ rfl, z, us, r, ⟨_, Heap.get?_push_size _ rfl, rfl, _, rfl⟩⟩
/-- tuple(xs) of a list, a plain tuple -/
theorem call_tupleF : CallR X (.type "tuple") (fun xs H Q => ∃ p ys, xs = [.ref p] ∧ SqL X.K H p ys ∧ ∀ l o, H l = none → o.dict = none → Q (.ref l) (upd H l (.frz o (.tup ys)))) := by
  intro pins s σ H xs us Q I r h
  obtain ⟨p, ys, rfl, hq, q⟩ := h
  obtain ⟨u, rfl, rx⟩ := vals1 r
  cases rx
  obtain ⟨its, r', pl, hz⟩ := I.list hq
  have hlen := r'.length
  refine call_tuple_list pl.isList (fun h' kp => ?_) (by simp only [List.size_toArray] <;> omega)
  have I1 : Inv X pins σ H { s with heap := h' } := I.kept (t' := s.toks) kp
  have I2 : Inv X pins σ (upd H h'.objs.size (.frz _ (.tup ys))) { s with heap := h'.push { cls := .type "tuple", data := .seq its.toArray } } :=
    I1.laid (t' := s.toks) (fun b o e => Heap.get?_push_of_some _ e) (Nat.le_refl _) (show ObjOk X.prog X.w _ _ _ (.frz _ (.tup ys)) from ⟨Heap.get?_push_size _ rfl, hz, its, r', IsTup.new _ _⟩)
  exact ⟨.ref h'.objs.size, _, I2, rfl, q _ _ (I1.hok.fresh (Nat.le_refl _)) rfl⟩
theorem pairs_of2 {pins : List (Addr × Obj)} {σ : St} {H : Hp} {s : Shared} (I : Inv X pins σ H s) : ∀ {ps : List Addr} {kvs : List (Key × V)}, Paired (fun p kv => SqT X.K H p [kV kv.1, kv.2]) ps kvs →
    ∃ (prs : List (Key × Value)) (vps : List (Value × Value)), KV kvs prs ∧ prs.length = ps.length ∧ vps.length = prs.length ∧
      ∀ (j : Nat) (k v : Value), vps[j]? = some (k, v) → ∃ (b : Addr) (q : Key × Value), ps[j]? = some b ∧ prs[j]? = some q ∧ v = q.2 ∧ IsTup s.heap b #[k, v] ∧ keyIs q.1 k = true
  | _, _, .nil => ⟨[], [], .nil, rfl, rfl, fun j k v e => by simp at e⟩
  | _, _, .cons (a := p) (b := kv) h t => by
    obtain ⟨prs, vps, r, hl, hl2, hp⟩ := pairs_of2 I t
    obtain ⟨its, rv, ht, _⟩ := I.tuple h
    obtain ⟨u, y, ei, ru, ry⟩ := vals2 rv
    subst ei
    refine ⟨(kv.1, y) :: prs, (u, y) :: vps, .cons ⟨rfl, ry⟩ r, by rw [List.length_cons, List.length_cons, hl], by rw [List.length_cons, List.length_cons, hl2], fun j k v e => ?_⟩
    cases j with
    | zero =>
      have e' : (u, y) = (k, v) := Option.some.inj e
      cases e'
      exact ⟨p, _, rfl, rfl, rfl, ht, kV_is (P := X.prog) (w := X.w) ru⟩
    | succ j =>
      obtain ⟨b, q, e1, e2, e3⟩ := hp j k v (by simpa using e)
      exact ⟨b, q, by simpa using e1, by simpa using e2, e3⟩
/-- dict(t), t a plain tuple of pairs -/
theorem call_dictPT (hcalm : X.calm = true) : CallR X (.type "dict") (fun xs H Q => ∃ (a : Addr) (ps : List Addr) (kvs : List (Key × V)), xs = [.ref a] ∧ Ptp H a (ps.map V.ref) ∧ Paired (fun p kv => SqT X.K H p [kV kv.1, kv.2]) ps kvs ∧
    ∀ p, H p = none → Q (.ref p) (upd H p (.dK (mergeK [] kvs)))) := by
  intro pins s σ H xs us Q I r q
  obtain ⟨a, ps, kvs, ex, hq, hp, q⟩ := q
  subst ex
  obtain ⟨u, eu, rx⟩ := vals1 r
  subst eu
  cases rx
  obtain ⟨o, ha, hdn⟩ := hq
  obtain ⟨hao, hz, its, rv, o', hao', hc, n, hdat⟩ := (show ObjOk X.prog X.w H s.heap a (.frz o (.tup (ps.map V.ref))) from I.hok a _ ha)
  rw [hao] at hao'
  cases hao'
  have ei := refs_at rv
  subst ei
  rw [List.length_map] at hz
  obtain ⟨prs, vps, rel, hl, hvl, hvp⟩ := pairs_of2 I hp
  have hTs : ∀ j b, ps[j]? = some b → ps.getD j 0 = b := fun j b e => by simp [List.getD, e]
  refine PySem.call_dict_pairs (knd := mixKind X.prog X.w) (kvs := prs) (PairArg.tuple (prog := X.prog) (w := X.w) a (ps.map Value.ref).toArray (fun j => ps.getD j 0) vps) (I.ok.hd hcalm) ⟨⟨o, n, hao, hc, hdn, hdat⟩, ?_, fun j k v e => ?_⟩ ⟨hvl.symm, fun i key v h => ?_⟩ (by rw [hvl, hl]; exact hz) fun h' tk hd' k => ?_
  · simp [hvl, hl]
  · obtain ⟨b, q, e1, e2, e3, e4, e5⟩ := hvp j k v e
    show _ ∧ PairAt s.heap (ps.getD j 0) k v
    rw [hTs j b e1]
    have ed : (List.map Value.ref ps).toArray[j]? = some (Value.ref b) := by simp [e1]
    refine ⟨?_, .inl e4⟩
    show _ = some (Value.ref (ps.getD j 0))
    rw [hTs j b e1]
    exact ed
  · obtain ⟨b, q', e1, e2, e3, e4, e5⟩ := hvp i key v h
    exact ⟨q'.1, by rw [e2, e3], e5⟩
  · have hm : (s.heap.objs.size == sysModules) = false := beq_eq_false_iff_ne.mpr (Nat.ne_of_gt I.big)
    have hlen : (mergeK [] kvs).length ≤ sizeLine := by
      refine Nat.le_trans (length_mergeK kvs []) ?_
      rw [List.length_nil, Nat.zero_add, rel.length, hl]
      exact hz
    exact ⟨.ref s.heap.objs.size, upd H s.heap.objs.size (.dK (mergeK [] kvs)), I.laid (t' := tk) (fun b u e => k b u (by simp) e) (Nat.le_refl _) (show ObjOk X.prog X.w _ _ _ (.dK (mergeK [] kvs)) from ⟨hlen, hm, merged [] prs, KV.merge rel .nil, hd'⟩), rfl, q _ (I.hok.fresh (Nat.le_refl _))⟩
/-- o.f as a target -/
def gFld (K : PySem.W.Frag) (ta : TE) (f : Str) : TG := fun y σ H Q => ta σ H fun x H2 => ∃ a C dx fs, x = .ref a ∧ H2 a = some (.ins C dx fs) ∧ Cls K C ∧ NoAttr K C f ∧ fs.length < 1000 ∧ Q σ (upd H2 a (.ins C dx (putF f y fs)))
theorem pg_fld {o : Expr} {f : Str} {pos : Pos} {ta : TE} (ha : PE X o ta) : PG X (.Attribute o f pos) (gFld X.K ta f) := by
  refine ⟨fun pins s σ H v u Q I r h => ?_⟩
  rw [assign_Attribute]
  refine wpAny_bind (wpAny_holding (thn (ha.run pins s σ H _ I h) fun ov s2 ⟨x, H2, I2, rx, a, C, dx, fs, ex, ea, c, n, l, q2⟩ => ?_))
  subst ex
  obtain rfl : ov = Value.ref a := rx
  refine wpAny_bind (wpAny_standAt (wpAny_bind (wpAny_holding (setattr_ok I2 ea c n l r fun s3 I3 => ?_))))
  exact wpAny_release ⟨σ, _, I3, q2⟩
end
end L2

namespace L2
open PySem PySem.Spec PyProof.Rows SrtO SrtZ
/-! own rules: (int, text) < (int, text); sorted of a list of texts of any length -/
def ltNZ (i j : Int) (x y : Str) : Bool := if i = j then ltZ x y else decide (i < j)
section
variable {X : Cx}
def rLtNZ (K : PySem.W.Frag) : R2 := fun x y H Q => ∃ (a b : Addr) (i j : Int) (z w : Str), x = .ref a ∧ y = .ref b ∧ SqT K H a [.int i, .str z] ∧ SqT K H b [.int j, .str w] ∧ Q (.bl (ltNZ i j z w)) H
theorem op_ltNZ (hu : X.A.units < cLine) : OpR X (compareOp .Lt) (rLtNZ X.K) := by
  intro pins s σ H x y v u Q I rx ry h
  obtain ⟨a, b, i, j, z, w, rfl, rfl, ha, hb, q⟩ := h
  cases rx
  cases ry
  obtain ⟨its, r1, p1, _⟩ := I.tuple ha
  obtain ⟨its2, r2, p2, _⟩ := I.tuple hb
  obtain ⟨u1, u2, rfl, ri, rj⟩ := vals2 r1
  obtain ⟨w1, w2, rfl, si, sj⟩ := vals2 r2
  obtain ⟨t1, rfl⟩ := ri
  obtain ⟨t2, rfl⟩ := rj
  obtain ⟨t3, rfl⟩ := si
  obtain ⟨t4, rfl⟩ := sj
  have R := Ob.RcOp.tuples_lt (A := X.A) (s := s) (e := fun k => match k with | 0 => (i == j) | _ => (z == w)) (r := fun k => match k with | 0 => decide (i < j) | _ => ltZ z w) p1 p2 hu (fun k h1 h2 => by
    match k, h1, h2 with
    | 0, _, _ => exact SeqAt.EqAt.int_int _ _ _ _
    | 1, _, _ => exact SeqAt.EqAt.str_str _ _ _ _
    | k + 2, h1, _ => exact absurd h1 (by simp)) (fun k h1 h2 _ => by
    match k, h1, h2 with
    | 0, _, _ => exact Ob.RcOp.lt_int _ _ _ _
    | 1, _, _ => exact fun _ _ _ _ h => PyProof.Rows.lt_str h
    | k + 2, h1, _ => exact absurd h1 (by simp))
  have e : Ob.lexAt (fun k => match k with | 0 => (i == j) | _ => (z == w)) (fun k => match k with | 0 => decide (i < j) | _ => ltZ z w) (decide (2 < 2)) 0 2 = ltNZ i j z w := by
    unfold ltNZ
    rw [Ob.lexAt_succ, Ob.lexAt_succ, Ob.lexAt_zero]
    show (if (i == j) = true then (if (z == w) = true then decide (2 < 2) else ltZ z w) else decide (i < j)) = _
    by_cases h1 : i = j
    · rw [if_pos (beq_iff_eq.mpr h1), if_pos h1]
      by_cases h2 : z = w
      · rw [if_pos (by rw [h2]; exact beq_self_eq_true w), h2, ltZ_irr]
        rfl
      · rw [if_neg (fun q => h2 (eq_of_beq q))]
    · rw [if_neg (fun q => h1 (eq_of_beq q)), if_neg h1]
  have R' : Ob.RcOp .Lt X.A s (.ref a) (.ref b) (ltNZ i j z w) := by
    rw [← e]
    exact R
  exact R' X.prog X.w X.xe (EP X pins σ Q) ⟨.bl _, H, I, rfl, q⟩
/-- sorted(xs), xs a list of texts of any length -/
def rSortedSL (K : PySem.W.Frag) : List V → Hp → VK → Prop := fun vs H Q => ∃ (a : Addr) (xs : List Str), vs = [V.ref a] ∧ SqL K H a (xs.map V.str) ∧ ∀ (ys : List Str) (p : Addr), ys.Perm xs → Srtd ltZ ys → H p = none → Q (.ref p) (upd H p (.lst (ys.map V.str)))
theorem cr_sortedSL : CallR X (.builtin "sorted") (rSortedSL X.K) := by
  intro pins s σ H vs us Q I r h
  obtain ⟨a, xs, rfl, hs, q⟩ := h
  obtain ⟨its, rv, hl, hz⟩ := I.list hs
  obtain rfl := Vals.ref1 r
  have hI : StrsAre its xs := strs_of_vals rv
  rw [List.length_map] at hz
  have il : its.length = xs.length := hI.length
  refine SrtO.sorted_ord (ltv := ltSv) ⟨fun x y => swo_str.asym _ _, fun x y z => swo_str.tr _ _ _⟩ hl.isList (by rw [il]; exact hz) (fun h2 h₁ b hb kk => strs_sortable (s := { s with heap := h₁ }) hI h2) fun out h1 h2 => ?_
  obtain ⟨ep, he'⟩ := PyProof.Rows.sortedAll_at s.heap its out.toArray
  have isO : ∀ v ∈ out, ∃ x t, v = Value.str x t := fun v hv => hI.all v (h2.perm.mem_iff.mp hv)
  have hO := strsAre_map out isO
  have pt : (out.map strOf).Perm xs := by
    have := h2.perm.map strOf
    rwa [show its.map strOf = xs from hI.strs] at this
  have hlen : ((out.map strOf).map V.str).length ≤ sizeLine := by rw [List.length_map, pt.length_eq]; exact hz
  refine ⟨.ref _, upd H (s.heap.objs.size + 1) (.lst ((out.map strOf).map V.str)), I.laid (t' := s.toks) (fun _ _ => PyProof.Rows.sortedAll_old) (Nat.le_succ _) ⟨hlen, out, ep, vals_of_strs hO, he'⟩, rfl, q _ _ pt (srtd_map h1) (I.hok.fresh (Nat.le_succ _))⟩
end
end L2

namespace L2
open PySem PySem.Spec PyProof.Rows
section
variable {X : Cx}
/-- name = {.. for ..} on one line, the name a local -/
theorem ps_setDc {i : Nat} {y : Str} {py : Pos} {kx vx tg iter : Expr} {ifs : List Expr} {scope : Scope} {own : List (Str × Nat)} {pos spos : Pos} {wi : TI} {g : TG} {tt : TT} {tk tv : TE} (hc : X.calm = true) (hN : X.N.Nodup) (hy : X.N[i]? = some y) (hyl : X.env.scope.names.lookup y = some .local)
    (hsw : swapsWith (.DictComp kx vx [⟨tg, iter, ifs, 0⟩] scope pos) (some (.Name y py)) spos.line X.env = pure true) (hi : PI X tg iter wi) (ok : BlkOk X.N X.env.scope scope own)
    (hg : ∀ (s : Shared) (H : Hp) (C : Addr) (cl : List (Str × Addr)) (fp : List Addr), PG (X.blk s H scope (compEnvC scope cl C X.env) fp) tg g) (ht : ∀ (s : Shared) (H : Hp) (C : Addr) (cl : List (Str × Addr)) (fp : List Addr), PTs (X.blk s H scope (compEnvC scope cl C X.env) fp) ifs tt)
    (hk : ∀ (s : Shared) (H : Hp) (C : Addr) (cl : List (Str × Addr)) (fp : List Addr), PE (X.blk s H scope (compEnvC scope cl C X.env) fp) kx tk)
    (he : ∀ (s : Shared) (H : Hp) (C : Addr) (cl : List (Str × Addr)) (fp : List Addr), PE (X.blk s H scope (compEnvC scope cl C X.env) fp) vx tv) (hs : ∀ x, foldedSetIterable iter X.env x = pure x := by intro _; rfl) :
    PS X (.Assign [.Name y py] (.DictComp kx vx [⟨tg, iter, ifs, 0⟩] scope pos) spos) (tAsg (tDc wi g tt tk tv (own.map (·.2))) (gName i)) := by
  refine ⟨fun pins s σ H D I h => ?_⟩
  rw [exec_Assign_Name_used _ _ _ _ hsw]
  refine wpAny_bind (wpAny_standAt (wpAny_bind ?_))
  show wpAny _ X.A (do let _ ← comprehension (.DictComp kx vx [⟨tg, iter, ifs, 0⟩] scope pos) scope X.env (firstIterPos [⟨tg, iter, ifs, 0⟩] pos) newDict false (eval iter X.env) (some (assign (.Name y py) X.env))) _ _ s
  have h : tDc wi g tt tk tv (own.map (·.2)) σ H (fun x H1 => gName i x σ H1 D.nx) := h
  refine wpAny_bind (thn (dc_core (Qf := fun _ s' => SP X pins D .next s') hc hN I hi ok hg ht hk he hs h fun L C s' m H' I' q hn f => ?_) fun _ s' hq => wpAny_pure (wpAny_pure hq))
  show wpAny _ _ (assign (.Name y py) X.env (.ref L)) _ _ _
  refine wpAny_assign_Name (store_ok2 (v := V.ref L) I' hN hy (.inl hyl) rfl (fun s2 I2 ⟨a, sb, ha⟩ => ?_) (.inr hyl))
  obtain ⟨f0, f1, f2, f3, f4, f5⟩ := f
  have haC : C ≠ a := by
    rcases ha with z | z
    · rw [z]; exact f1
    · exact fun e => f4 y a z e.symm
  refine ⟨m, hn.sameBut sb haC, fun h3 sb3 => ?_⟩
  exact ⟨_, H', I2.turned (t' := s2.toks) (fun b o hb e => (sb3.2 b hb).trans e) f0 f1 f3 f4 f5, q⟩
theorem sw_trueD {kx vx : Expr} {gs : List Comprehension} {scope : Scope} {pos py : Pos} {y : Str} {l : Nat} {env : Env} (hk : env.scope.kind = .function) (hy : env.scope.names.lookup y = some .local) (hl : (py.line == pos.line) = true)
    (ha : (scope.names.any fun (n, k) => n == y && (k == .local || k == .cell)) = false) : swapsWith (.DictComp kx vx gs scope pos) (some (.Name y py)) l env = pure true := by
  have ky : env.kindOf y = some .local := hy
  have hb : env.blockKind = .function := by unfold Env.blockKind; rw [hk]; rfl
  unfold swapsWith
  simp only [hb, ky, ha, Expr.pos, hl]
  rfl
/-- list.count of a text among texts -/
def rCntS (K : PySem.W.Frag) : V → List V → Hp → VK → Prop := fun x xs H Q => ∃ (p : Addr) (ns : List Str) (k : Str), x = .ref p ∧ xs = [.str k] ∧ SqL K H p (ns.map V.str) ∧ Q (.int (ns.count k : Nat)) H
theorem countS_in (k : Str) : ∀ ns : List Str, PySem.Spec.countIn (.str k) (ns.map PyData.str) = (ns.count k : Nat)
  | [] => rfl
  | n :: r => by
    rw [List.map_cons, PySem.Spec.countIn, countS_in k r, List.count_cons]
    simp only [PySem.Spec.same]
    rcases Bool.eq_false_or_eq_true (n == k) with hb | hb <;> simp only [hb, Bool.false_eq_true, if_true, if_false] <;> push_cast <;> omega
theorem mt_lcountS : MtR X "list.count" (rCntS X.K) := by
  intro pins s σ H x xs v us Q I rx rxs h
  obtain ⟨p, ns, k, rfl, rfl, hs, q⟩ := h
  cases rx
  obtain ⟨u, rfl, ru⟩ := rxs.one
  obtain ⟨t, rfl⟩ := ru
  obtain ⟨its, rv, pl, hlen⟩ := I.list hs
  refine count_list_strs (vs := its) pl.isList (strs_of_vals rv) ?_
  rw [countS_in]
  exact ⟨.int (ns.count k : Nat), H, I.tok _, ⟨s.toks, rfl⟩, q⟩
/-- a method within a comprehension: the written part by name -/
theorem pe_bmK {K : PySem.W.Frag} {o e : Expr} {es : List Expr} {to : TE} {t : TA} {name : Str} {apos cpos : Pos} {T id : String} {r : V → List V → Hp → VK → Prop} (pa : PlainAttrs T) (slot : Slot T name id) (hty : typeOf (.builtin id) = pure (.type "method_descriptor")) (hm : MtR X id r) (ho : PE X o to) (ha : PA X (e :: es) t) (hK : X.K = K := by rfl)
    (hbase : attributeBase o name X.env (eval o X.env) = eval o X.env := by rfl)
    (hfew : ((backTo cpos (starEach (e :: es) X.env)).all (fun x => !x.1) && (backToKw cpos (keywordEach [] X.env)).all (fun x => x.1.isSome)
      && decide ((e :: es).length + ([] : List Keyword).length + (if ([] : List Keyword).isEmpty then 0 else 1) < 30)) = true := by rfl)
    (hline : (apos.endLine == cpos.line) = true := by rfl) (hs : starEach (e :: es) X.env = (false, eval e X.env) :: starEach es X.env := by rfl) (hplain : (backTo cpos (starEach es X.env)).any (·.1) = false := by rfl) :
    PE X (.Call (.Attribute o name apos) (e :: es) [] cpos) (tBM K T r to t) := by
  subst hK
  exact pe_bm pa slot hty hm ho ha hbase hfew hline hs hplain
end
end L2

namespace Kb
open PySem PySem.Spec PyProof.Rows L2
/-! the text -/
def topS (i : Nat) : Stmt := PySem.Challenge.pw_knownends_k61_whole_questions_as_texts.main.body.getD i (.Pass ⟨0, 0, 0, 0⟩)
/-! facts -/
structure Dn (K : PySem.W.Frag) (mg : Str → Option Value) (nm : Str) (st : Stmt) (ps : List Str) where
  f : Addr
  fd : FuncData
  F : Fun K nm nm st f fd
  g : mg nm = some (.ref f)
  b : Binds K fd ps []
structure Cst (mg : Str → Option Value) (nm : Str) (v : V) where
  u : Value
  g : mg nm = some u
  r : RelV v u
structure Blt (mg : Str → Option Value) : Prop where
  n_len : mg "len" = none
  n_int : mg "int" = none
  n_abs : mg "abs" = none
  n_range : mg "range" = none
  n_isinstance : mg "isinstance" = none
  n_str : mg "str" = none
  n_all : mg "all" = none
  n_tuple : mg "tuple" = none
  n_bool : mg "bool" = none
  n_list : mg "list" = none
  n_dict : mg "dict" = none
  n_sum : mg "sum" = none
  n_min : mg "min" = none
  n_sorted : mg "sorted" = none
  n_max : mg "max" = none
  n_set : mg "set" = none
/-! heaps -/
theorem same_upd {H : Hp} {p : Addr} {o : HO} (h : H p = none) : Same H (upd H p o) := fun b x e => by
  rw [upd_ne (ne_of_none e h)]
  exact e
theorem Same.new {H H1 : Hp} {p : Addr} {o : HO} (x : Same H H1) (h : H1 p = none) : Same H (upd H1 p o) := fun b u e => same_upd h b u (x b u e)
theorem Same.gone {H H1 : Hp} {p : Addr} (x : Same H H1) (h : H1 p = none) : H p = none := by
  cases e : H p with
  | none => rfl
  | some o =>
    have := x _ _ e
    rw [h] at this
    cases this
/-- an object that was new is stored anew -/
theorem Same.put {H H1 : Hp} {p : Addr} {o : HO} (x : Same H H1) (h : H p = none) : Same H (upd H1 p o) := fun b u e => by
  rw [upd_ne (ne_of_none e h)]
  exact x b u e
theorem sql {K : PySem.W.Frag} {H : Hp} {a : Addr} {xs : List V} (h : H a = some (.lst xs)) : SqL K H a xs := .inl (.inl h)
theorem seqT {K : PySem.W.Frag} {H H' : Hp} {a : Addr} {xs : List V} (h : SqT K H a xs) (s : Same H H') : SqT K H' a xs := by
  rcases h with (h | ⟨o, h⟩) | h
  · exact .inl (.inl (s _ _ h))
  · exact .inl (.inr ⟨o, s _ _ h⟩)
  · exact .inr h
theorem tyT {K : PySem.W.Frag} {H : Hp} {a : Addr} {xs : List V} (h : SqT K H a xs) : TyX K H (.ref a) (.type "tuple") := by
  rcases h with (h | ⟨o, h⟩) | ⟨o, its, n, h, c, _⟩
  · exact .base (.tup h)
  · exact .fTuple h
  · exact .kTuple h c
/-- %, the rest as a letter -/
def rModB : R2 := fun x y H Q => ∃ i j, x = .int i ∧ y = .int j ∧ 0 < j ∧ ∀ m : Int, 0 ≤ m → m < j → m = i % j → Q (.int m) H
theorem op_modB {X : Cx} : OpR X (binaryOp .Mod) rModB := fun pins s σ H x y v u Q I rx ry h => by
  obtain ⟨i, j, e1, e2, hj, q⟩ := h
  exact op_mod pins s σ H x y v u Q I rx ry ⟨i, j, e1, e2, hj, q _ (Int.emod_nonneg _ (by omega)) (Int.emod_lt_of_pos _ hj) rfl⟩
theorem cmulR {i j : Int} (h1 : 0 ≤ j) (h2 : j < 10000000000) : CMul i j := .inr ⟨by omega, by omega⟩
theorem cmulL {i j : Int} (h1 : 0 ≤ i) (h2 : i < 10000000000) : CMul i j := .inl ⟨by omega, by omega⟩
/-! names -/
def cs (z : Str) : List Nat := z.cps.toList
theorem cs_len (z : Str) : (cs z).length = z.length := by simp [cs, Str.length]
theorem cs_inj {a b : Str} (h : cs a = cs b) : a = b := by
  cases a; cases b
  simp [cs] at h
  rw [h]
def nmC (c : Nat) : Bool := !decide (c < 97) && !decide (122 < c)
/-- a name -/
structure Nm (z : Str) : Prop where
  pos : 1 ≤ z.length
  len : z.length ≤ 8
  abc : ∀ c ∈ cs z, nmC c = true
theorem lt_one (a b : Nat) : decide ([a] < [b]) = decide (a < b) := by
  have : ([a] < [b]) ↔ a < b := by simp [List.cons_lt_cons_iff]
  by_cases h : a < b
  · rw [decide_eq_true h, decide_eq_true (this.mpr h)]
  · rw [decide_eq_false h, decide_eq_false (fun z => h (this.mp z))]
abbrev sP_is_int : Stmt := topS 4
abbrev NP_is_int : List Str := ["thing"]
theorem scP_is_int : FnScope ["thing"] ["thing"] (defScope sP_is_int) := ⟨rfl, rfl, rfl, by decide +kernel, rfl, by decide +kernel, by decide +kernel⟩
abbrev NP_is_number : List Str := ["thing"]
abbrev NP_is_room : List Str := ["thing"]
abbrev sP_is_name : Stmt := topS 7
abbrev NP_is_name : List Str := ["thing", "letter"]
theorem scP_is_name : FnScope ["thing", "letter"] ["thing"] (defScope sP_is_name) := ⟨rfl, rfl, rfl, by decide +kernel, rfl, by decide +kernel, by decide +kernel⟩
abbrev NP_is_stream : List Str := ["thing", "item"]
abbrev DnIsInt (K : PySem.W.Frag) (mg : Str → Option Value) := Dn K mg "is_int" sP_is_int ["thing"]
abbrev DnIsName (K : PySem.W.Frag) (mg : Str → Option Value) := Dn K mg "is_name" sP_is_name ["thing"]
section
variable {P : Program} {w : World} {K : PySem.W.Frag} {mg : Str → Option Value} {base : Heap}
/-! is_int, of ints -/
def spIsInt : Sp := fun vs H Q _ => ∃ i : Int, vs = [.int i] ∧ Q (.bl true) H
theorem ok_is_int (T : Blt mg) (d : DnIsInt K mg) : FnOk P w K mg base CX0 1 d.f d.fd ["thing"] spIsInt := by
  refine d.F.ok scP_is_int (fun vs H Q E h => ?_) (fun cdv A outer s H vs Q E hr h => ?_)
  · obtain ⟨i, rfl, _⟩ := h
    rfl
  · obtain ⟨i, rfl, q⟩ := h
    refine ⟨_, (pss_one (ps_ret (pe_and (pe_callB call_isi (by rfl) T.n_isinstance (by decide +kernel) (pa_cons (pv 0) (pa_cons (pe_bltn (v := .ty "int") (by rfl) T.n_int (by decide +kernel) rfl) pa_nil))) (pe_one (pe_not (pe_callB call_isi (by rfl) T.n_isinstance (by decide +kernel) (pa_cons (pv 0) (pa_cons (pe_bltn (v := .ty "bool") (by rfl) T.n_bool (by decide +kernel) rfl) pa_nil)))))))), ?_⟩
    refine ⟨.int i, rfl, .int i, _, _, _, true, rfl, .ty "int", .base (.int i), kit_ty (by decide +kernel), true, rfl, iteT ?_⟩
    exact ⟨.int i, rfl, .int i, _, _, _, false, rfl, .ty "bool", .base (.int i), kit_ty (by decide +kernel), false, rfl, q⟩
/-! is_number, of ints -/
def spIsNumber : Sp := fun vs H Q _ => ∃ i : Int, vs = [.int i] ∧ Q (.bl (decide (0 ≤ i))) H
/-! is_room, of ints -/
def spIsRoom : Sp := fun vs H Q _ => ∃ i : Int, vs = [.int i] ∧ Q (.bl (decide (1 ≤ i) && decide (i ≤ 64))) H
/-! is_name, of names -/
def spIsName : Sp := fun vs H Q _ => ∃ z : Str, vs = [.str z] ∧ Nm z ∧ ∀ H', Same H H' → Q (.bl true) H'
theorem ok_is_name (T : Blt mg) (cL : Cst mg "LONGEST_NAME" (.int 8)) (d : DnIsName K mg) : FnOk P w K mg base CX0 1 d.f d.fd ["thing"] spIsName := by
  refine d.F.ok scP_is_name (fun vs H Q E h => ?_) (fun cdv A outer s H vs Q E hr h => ?_)
  · obtain ⟨z, rfl, _⟩ := h
    rfl
  · obtain ⟨z, rfl, nm, q⟩ := h
    refine ⟨_, (pss_cons (ps_if (PW.pt (pw_or (pt_not (pt_val (pe_callB call_isi (by rfl) T.n_isinstance (by decide +kernel) (pa_cons (pv 0) (pa_cons (pe_bltn (v := .ty "str") (by rfl) T.n_str (by decide +kernel) rfl) pa_nil))))) (pw_or1 (pt_not (pt_chain op_le op_le pe_int (pe_callB call_len_str (by rfl) T.n_len (by decide +kernel) (pa_cons (pv 0) pa_nil)) (pe_glob rfl cL.g cL.r))))))
      (pss_one (ps_ret pe_bl))
      pss_nil)
    (pss_one (ps_ret (pe_callB (cr_all rfl) (by rfl) T.n_all (by decide +kernel) (pa_cons (pe_lc (own := [("letter", 1)]) (g := gName 1) (tt := tYes) rfl scP_is_name.nd (pi_str (pv 0)) (blkOk_by (N := NP_is_name) (sc := defScope sP_is_name) (by decide +kernel)) (fun _ _ _ _ _ => pg_name (i := 1) scP_is_name.nd rfl (Or.inl rfl)) (fun _ _ _ _ _ => pts_nil) (fun _ _ _ _ _ => (pe_chain op_le_str op_le_str pe_str (pv 1) pe_str))) pa_nil))))), ?_⟩
    have h1 : decide ((1 : Int) ≤ (z.length : Int)) = true := decide_eq_true (by have := nm.pos; omega)
    have h8 : decide ((z.length : Int) ≤ 8) = true := decide_eq_true (by have := nm.len; omega)
    refine ⟨.str z, rfl, .str z, _, _, _, true, rfl, .ty "str", .base (.str z), kit_ty (by decide +kernel), true, rfl, iteF ?_⟩
    refine ⟨.str z, rfl, z, rfl, (by rw [sizeLine_eq]; have := nm.len; omega), _, _, rfl, rfl, true, congrArg V.bl h1, iteT ⟨_, _, rfl, rfl, true, congrArg V.bl h8, iteF ?_⟩⟩
    refine ⟨.str z, rfl, z, rfl, fun D nD => ?_⟩
    refine lc_it walk_str (fun i H3 => Same H H3 ∧ H3 D = some (.lst (((cs z).take i).map fun c => V.bl true))) ⟨same_upd nD, upd_same⟩ (fun _ _ _ _ => trivial) (fun i x H3 H4 hi h3 y => ?_) (fun H3 h3 => ?_)
    · obtain ⟨rfl, c, hc, rfl⟩ := y
      have hc2 : (cs z)[i]? = some c := by
        rw [← hc]
        simp [cs]
      have hcn := nm.abc c (List.mem_of_getElem? hc2)
      unfold nmC at hcn
      have ha : (!decide (c < 97)) = true := by cases h : (!decide (c < 97)) <;> simp_all
      have hz : (!decide (122 < c)) = true := by rw [ha, Bool.true_and] at hcn; exact hcn
      refine ⟨rfl, .str ⟨#[c]⟩, rfl, _, _, rfl, rfl, true, ?_, iteT ⟨_, _, rfl, rfl, ?_⟩⟩
      · show V.bl (!decide ([c] < (Str.ofString "a").cps.toList)) = _
        rw [show (Str.ofString "a").cps.toList = [97] by decide +kernel, lt_one, ha]
      · rw [show (!decide ((Str.ofString "z").cps.toList < [c])) = true by
          rw [show (Str.ofString "z").cps.toList = [122] by decide +kernel, lt_one, hz]]
        refine ⟨_, h3.2, ?_, fun b o e => ?_, ?_⟩
        · rw [List.length_map, List.length_take, sizeLine_eq]
          have := cs_len z
          have := nm.len
          omega
        · rw [upd_ne (ne_of_none e nD)]
          exact h3.1 b o e
        · rw [upd_same, List.take_add_one, hc2, List.map_append]
          rfl
    · refine ⟨D, (cs z).map fun _ => true, rfl, sql ?_, ?_⟩
      · rw [h3.2, List.map_map]
        rw [List.take_of_length_le (by
          show (cs z).length ≤ z.cps.size
          simp [cs])]
        rfl
      · rw [show (((cs z).map fun _ => true).all id) = true by simp]
        exact q H3 h3.1
/-! is_stream, of tuples of names -/
def spIsStream (K : PySem.W.Frag) : Sp := fun vs H Q _ => ∃ (a : Addr) (zs : List Str), vs = [.ref a] ∧ SqT K H a (zs.map V.str) ∧ (∀ z ∈ zs, Nm z) ∧ zs.length ≤ 100000 ∧ ∀ H', Same H H' → Q (.bl true) H'
end
end Kb

namespace Kb
open PySem PySem.Spec PyProof.Rows L2 SrtZ SrtO
theorem map_at {α β : Type} {f : α → β} {xs : List α} {i : Nat} {y : β} (h : (xs.map f)[i]? = some y) : ∃ x, xs[i]? = some x ∧ y = f x := by
  rw [List.getElem?_map] at h
  cases e : xs[i]? with
  | none => rw [e] at h; cases h
  | some x => rw [e] at h; exact ⟨x, rfl, (Option.some.inj h).symm⟩
abbrev shand : Stmt := topS 19
abbrev Nhand : List Str := ["_law_script", "_law_cells", "_law_cell"]
theorem schand : FnScope ["_law_script", "_law_cells", "_law_cell"] ["_law_script"] (defScope shand) := ⟨rfl, rfl, rfl, by decide +kernel, rfl, by decide +kernel, by decide +kernel⟩
abbrev sdraw : Stmt := topS 20
theorem scdraw : FnScope ["_law_hand_here", "_law_many", "_law_cell", "_law_digit", "_law_number"] ["_law_hand_here", "_law_many"] (defScope sdraw) := ⟨rfl, rfl, rfl, by decide +kernel, rfl, by decide +kernel, by decide +kernel⟩
abbrev sany : Stmt := topS 21
theorem scany : FnScope ["_law_hand_here", "_law_some"] ["_law_hand_here", "_law_some"] (defScope sany) := ⟨rfl, rfl, rfl, by decide +kernel, rfl, by decide +kernel, by decide +kernel⟩
abbrev Dnhand (K : PySem.W.Frag) (mg : Str → Option Value) := Dn K mg "_law_hand" shand ["_law_script"]
abbrev Dndraw (K : PySem.W.Frag) (mg : Str → Option Value) := Dn K mg "_law_draw" sdraw ["_law_hand_here", "_law_many"]
abbrev Dnany (K : PySem.W.Frag) (mg : Str → Option Value) := Dn K mg "_law_any" sany ["_law_hand_here", "_law_some"]
/-- the hand that is drawn from: its list, its cells -/
structure Wl (a c : Addr) (H : Hp) : Prop where
  ac : a ≠ c
  ex : ∃ (ns : List Int) (i : Nat) (u s t : Int), H a = some (.lst [.ref c, .int (i : Int), .int u, .int s, .int t]) ∧ H c = some (.lst (ns.map V.int)) ∧ (∀ n ∈ ns, 0 ≤ n) ∧ 0 ≤ u
/-- all but the hand stays -/
def Exw (a : Addr) (H H' : Hp) : Prop := ∀ b o, b ≠ a → H b = some o → H' b = some o
theorem Exw.refl (a : Addr) (H : Hp) : Exw a H H := fun _ _ _ h => h
theorem Exw.trans {a : Addr} {H H1 H2 : Hp} (x : Exw a H H1) (y : Exw a H1 H2) : Exw a H H2 := fun b o n h => y b o n (x b o n h)
theorem Exw.up {a : Addr} {H H1 : Hp} {u : HO} (x : Exw a H H1) : Exw a H (upd H1 a u) := fun b o n h => by
  rw [upd_ne n]
  exact x b o n h
theorem Exw.same {a : Addr} {H H1 H2 : Hp} (x : Exw a H H1) (y : Same H1 H2) : Exw a H H2 := fun b o n h => y b o (x b o n h)
theorem Same.exw {a : Addr} {H H1 : Hp} (x : Same H H1) : Exw a H H1 := fun b o _ h => x b o h
theorem Wl.same {a c : Addr} {H H' : Hp} (h : Wl a c H) (y : Same H H') : Wl a c H' := by
  obtain ⟨n1, ns, i, u, s, t, e1, e2, r⟩ := h
  exact ⟨n1, ns, i, u, s, t, y _ _ e1, y _ _ e2, r⟩
theorem Wl.ne2 {a c p : Addr} {H : Hp} (h : Wl a c H) (hp : H p = none) : p ≠ a ∧ p ≠ c := by
  obtain ⟨_, ns, i, u, s, t, e1, e2, _⟩ := h
  exact ⟨(ne_of_none e1 hp).symm, (ne_of_none e2 hp).symm⟩
theorem Wl.put {a c p : Addr} {H : Hp} {u : HO} (h : Wl a c H) (n : p ≠ a ∧ p ≠ c) : Wl a c (upd H p u) := by
  obtain ⟨n1, ns, i, v, s, t, e1, e2, r⟩ := h
  exact ⟨n1, ns, i, v, s, t, by rw [upd_ne n.1.symm]; exact e1, by rw [upd_ne n.2.symm]; exact e2, r⟩
/-- what is no list stays -/
theorem Exw.at {a c b : Addr} {H H' : Hp} {o : HO} (x : Exw a H H') (h : Wl a c H) (hb : H b = some o) (hl : ∀ xs, o ≠ .lst xs) : H' b = some o := by
  obtain ⟨_, ns, i, u, s, t, e1, e2, _⟩ := h
  exact x b o (ne_of hb e1 (hl _)) hb
/-- a list of texts is not the hand's -/
theorem Exw.strs {a c b : Addr} {H H' : Hp} {zs : List Str} (x : Exw a H H') (h : Wl a c H) (hb : H b = some (.lst (zs.map V.str))) : H' b = some (.lst (zs.map V.str)) := by
  obtain ⟨_, ns, i, u, s, t, e1, e2, _⟩ := h
  refine x b _ (fun e => ?_) hb
  subst e
  rw [hb] at e1
  have := HO.lst.inj (Option.some.inj e1)
  cases zs with
  | nil => cases this
  | cons y ys => cases this
theorem Exw.tup {K : PySem.W.Frag} {a c b : Addr} {H H' : Hp} {xs : List V} (x : Exw a H H') (h : Wl a c H) (hb : SqT K H b xs) : SqT K H' b xs := by
  rcases hb with (hb | ⟨o, hb⟩) | hb
  · exact .inl (.inl (x.at h hb (by intro _ z; cases z)))
  · exact .inl (.inr ⟨o, x.at h hb (by intro _ z; cases z)⟩)
  · exact .inr hb
theorem Exw.new {a p : Addr} {H H1 : Hp} {u : HO} (x : Exw a H H1) (h : H1 p = none) : Exw a H (upd H1 p u) := x.same (same_upd h)
theorem Exw.gone {a p : Addr} {H H1 : Hp} (x : Exw a H H1) (ne : p ≠ a) (h : H1 p = none) : H p = none := by
  cases e : H p with
  | none => rfl
  | some o => rw [x _ _ ne e] at h; cases h
/-- an object that was new is stored anew -/
theorem Exw.put {a p : Addr} {H H1 : Hp} {u : HO} (x : Exw a H H1) (h : H p = none) : Exw a H (upd H1 p u) := fun b o n e => by
  rw [upd_ne (ne_of_none e h)]
  exact x b o n e
theorem rd_ix {K : PySem.W.Frag} {σ : L2.St} {H : Hp} {Q : VK} {a : Addr} {xs : List V} {v : V} {n : Nat} (k : Nat) (h0 : σ[n]? = some (some (.ref a))) (hS : SqL K H a xs) (hv : xs[k]? = some v) (q : Q v H) :
    tOp (rIxL K) (tVar n) (tC (.int (k : Int))) σ H Q := ⟨.ref a, h0, a, xs, k, v, rfl, rfl, hS, atI_nat hv, q⟩
theorem rd_set {H : Hp} {σ : L2.St} {a : Addr} {xs : List V} {v : V} {n : Nat} (k : Nat) {R : L2.St → Hp → Prop} (h0 : σ[n]? = some (some (.ref a))) (h : H a = some (.lst xs)) (hk : k < xs.length) (q : R σ (upd H a (.lst (xs.set k v)))) :
    gSub (tVar n) (tC (.int (k : Int))) rSetL v σ H R := ⟨.ref a, h0, a, xs, k, k, rfl, rfl, h, by unfold ixN; rw [if_pos (by omega), if_pos (by omega)]; simp, q⟩
theorem cut63 {xs : List V} (h : xs.length ≤ 63) : cutV xs none (some 63) = xs := by
  unfold cutV
  rw [show HT.sIx xs.length xs.length (some 63) = min 63 xs.length from HT.sIx_nat xs.length xs.length 63, HT.sIx_none, List.drop_zero, Nat.sub_zero]
  exact List.take_of_length_le (by omega)
def absI (n : Int) : Int := if n < 0 then -n else n
section
variable {P : Program} {w : World} {K : PySem.W.Frag} {mg : Str → Option Value} {base : Heap}
/-! _law_hand -/
def spHand (K : PySem.W.Frag) : Sp := fun vs H Q _ => ∃ (a : Addr) (ns : List Int), vs = [.ref a] ∧ SqL K H a (ns.map V.int) ∧ ns.length ≤ 63 ∧ ∀ H' p c, Same H H' → H p = none → Wl p c H' → Q (.ref p) H'
theorem ok_hand (T : Blt mg) (d : Dnhand K mg) : FnOk P w K mg base CX0 1 d.f d.fd ["_law_script"] (spHand K) := by
  refine d.F.ok schand (fun vs H Q E h => ?_) (fun cdv A outer s H vs Q E hr h => ?_)
  · obtain ⟨a, ns, rfl, _⟩ := h
    rfl
  · obtain ⟨a, ns, rfl, hS, hl, q⟩ := h
    refine ⟨_, (pss_cons (ps_setLc (i := 1) (own := [("_law_cell", 2)]) (g := gName 2) (tt := tYes) rfl schand.nd rfl rfl (sw_true rfl rfl rfl (by decide +kernel)) (pi_list (pe_slice sl_list (pv 0) po_none (po_some pe_int))) (blkOk_by (N := Nhand) (sc := defScope shand) (by decide +kernel)) (fun _ _ _ _ _ => pg_name (i := 2) schand.nd rfl (Or.inl rfl)) (fun _ _ _ _ _ => pts_nil) (fun _ _ _ _ _ => (pe_callB call_abs (by rfl) T.n_abs (by decide +kernel) (pa_cons (pe_callTy call_int1 (by rfl) T.n_int (by decide +kernel) (pa_cons (pv 2) pa_nil)) pa_nil))))
    (pss_one (ps_ret (pe_lst (pa_cons (pv 1) (pa_cons pe_int (pa_cons pe_int (pa_cons (pe_op op_add pe_int (pe_callB call_len_seq (by rfl) T.n_len (by decide +kernel) (pa_cons (pv 1) pa_nil))) (pa_cons pe_int pa_nil))))))))), ?_⟩
    refine ⟨.ref a, rfl, 63, rfl, a, _, rfl, hS, fun p np => ?_⟩
    rw [cut63 (by rw [List.length_map]; exact hl)]
    have s1 : Same H (upd H p (.lst (ns.map V.int))) := same_upd np
    have hp1 : (upd H p (.lst (ns.map V.int))) p = some (.lst (ns.map V.int)) := upd_same
    generalize upd H p (.lst (ns.map V.int)) = H1 at s1 hp1 ⊢
    refine ⟨p, rfl, ⟨_, sql hp1⟩, fun D nD => lc_list (xs := ns.map V.int) (fun i H3 => Same H1 H3 ∧ H3 D = some (.lst ((ns.take i).map fun n => V.int (absI n)))) ⟨same_upd nD, upd_same⟩ (fun i H3 _ h3 => sql (h3.1 _ _ hp1)) (fun i x H3 hx h3 => ?_) (fun H3 h3 => ?_)⟩
    · obtain ⟨n, hn, rfl⟩ := map_at hx
      refine ⟨rfl, .int n, rfl, .inl ⟨n, rfl, n, rfl, _, h3.2, ?_, fun b o z => ?_, ?_⟩⟩
      · rw [List.length_map, List.length_take, sizeLine_eq]
        omega
      · rw [upd_ne (ne_of_none z nD)]
        exact h3.1 b o z
      · rw [upd_same, List.take_add_one, hn, List.map_append]
        rfl
    · obtain ⟨s3, hD⟩ := h3
      rw [List.length_map, List.take_length] at hD
      have nD0 : H D = none := Same.gone s1 nD
      refine ⟨.ref D, rfl, .ref D, rfl, D, _, rfl, .inl (sql hD), _, _, rfl, rfl, (by show 5 ≤ sizeLine; decide), fun l nl => ?_⟩
      have s4 : Same H3 (upd H3 l (.lst [.ref D, .int 0, .int 0, .int (1 + (((ns.map fun n => V.int (absI n)).length : Nat) : Int)), .int 0])) := same_upd nl
      have lD : l ≠ D := (ne_of_none hD nl).symm
      have s03 : Same H H3 := fun b o e => s3 _ _ (s1 _ _ e)
      refine q _ l D (fun b o e => s4 _ _ (s03 _ _ e)) (Same.gone s03 nl) ⟨lD, ns.map absI, 0, 0, _, 0, upd_same, ?_, fun n hn => ?_, Int.le_refl _⟩
      · rw [List.map_map]
        exact s4 _ _ hD
      · obtain ⟨m, _, rfl⟩ := List.mem_map.mp hn
        unfold absI
        split <;> omega
/-! _law_draw -/
def spDraw : Sp := fun vs H Q _ => ∃ (a c : Addr) (n : Int), vs = [.ref a, .int n] ∧ Wl a c H ∧ 0 < n ∧ n < 1073741824 ∧ ∀ H' (r : Int), Exw a H H' → Wl a c H' → 0 ≤ r → r < n → Q (.int r) H'
theorem ok_draw (T : Blt mg) (d : Dndraw K mg) : FnOk P w K mg base CX0 1 d.f d.fd ["_law_hand_here", "_law_many"] spDraw := by
  refine d.F.ok scdraw (fun vs H Q E h => ?_) (fun cdv A outer s H vs Q E hr h => ?_)
  · obtain ⟨a, c, n, rfl, _⟩ := h
    rfl
  · obtain ⟨a, c, n, rfl, hw, hn0, hn1, q⟩ := h
    refine ⟨_, (C8.pss_cut (ps_if (PW.pt (pw_and (pt_cmpR op_eq (pe_ix ix_list (pv 0) pe_int (fun _ _ => rfl)) pe_int (nomark _)) (pw_and1 (pt_cmpR op_lt (pe_ix ix_list (pv 0) pe_int (fun _ _ => rfl)) (pe_callB call_len_seq (by rfl) T.n_len (by decide +kernel) (pa_cons (pe_ix ix_list (pv 0) pe_int (fun _ _ => rfl)) pa_nil)) (nomark _)))))
      (pss_cons (ps_set (i := 2) scdraw.nd rfl (Or.inl rfl) (pe_ix ix_list (pe_ix ix_list (pv 0) pe_int (fun _ _ => rfl)) (pe_ix ix_list (pv 0) pe_int (fun _ _ => rfl)) (fun _ _ => rfl)))
      (pss_cons (ps_asg (pe_op op_add (pe_ix ix_list (pv 0) pe_int (fun _ _ => rfl)) pe_int) (pg_sub (pv 0) pe_int set_list))
      (pss_cons (ps_asg (pe_op op_mod (pe_callTy call_int1 (by rfl) T.n_int (by decide +kernel) (pa_cons (pe_op op_add (pe_op op_add (pe_op op_mul (pe_ix ix_list (pv 0) pe_int (fun _ _ => rfl)) pe_int) (pv 2)) pe_int) pa_nil)) pe_int) (pg_sub (pv 0) pe_int set_list))
      (pss_one (ps_if (pt_cmpR op_ge (pv 2) (pe_op op_pow pe_int pe_int) (nomark _))
        (pss_one (ps_asg (pv 2) (pg_sub (pv 0) pe_int set_list)))
        pss_nil)))))
      pss_nil)
    (pss_cons (ps_if (pt_cmpR op_gt (pe_ix ix_list (pv 0) pe_int (fun _ _ => rfl)) pe_int (nomark _))
      (pss_cons (ps_set (i := 3) scdraw.nd rfl (Or.inl rfl) (pe_op op_modB (pe_callTy call_int1 (by rfl) T.n_int (by decide +kernel) (pa_cons (pe_ix ix_list (pv 0) pe_int (fun _ _ => rfl)) pa_nil)) (pv 1)))
      (pss_cons (ps_asg (pe_op op_fdiv (pe_ix ix_list (pv 0) pe_int (fun _ _ => rfl)) (pv 1)) (pg_sub (pv 0) pe_int set_list))
      (pss_one (ps_ret (pv 3)))))
      pss_nil)
    (pss_cons (ps_asg (pe_op op_add (pe_ix ix_list (pv 0) pe_int (fun _ _ => rfl)) pe_int) (pg_sub (pv 0) pe_int set_list))
    (pss_cons (ps_set (i := 4) scdraw.nd rfl (Or.inl rfl) (pe_op op_modB (pe_callTy call_int1 (by rfl) T.n_int (by decide +kernel) (pa_cons (pe_op op_mul (pe_callTy call_int1 (by rfl) T.n_int (by decide +kernel) (pa_cons (pe_op op_add (pe_ix ix_list (pv 0) pe_int (fun _ _ => rfl)) (pe_op op_mul pe_int (pe_ix ix_list (pv 0) pe_int (fun _ _ => rfl)))) pa_nil)) pe_int) pa_nil)) pe_int))
    (pss_cons (ps_set (i := 4) scdraw.nd rfl (Or.inl rfl) (pe_op op_modB (pe_callTy call_int1 (by rfl) T.n_int (by decide +kernel) (pa_cons (pe_op op_mul (pv 4) (pe_op op_add (pe_op op_fdiv (pv 4) pe_int) pe_int)) pa_nil)) pe_int))
    (pss_cons (ps_set (i := 4) scdraw.nd rfl (Or.inl rfl) (pe_op op_modB (pe_callTy call_int1 (by rfl) T.n_int (by decide +kernel) (pa_cons (pe_op op_mul (pv 4) (pe_op op_add (pe_op op_fdiv (pv 4) pe_int) pe_int)) pa_nil)) pe_int))
    (pss_one (ps_ret (pe_op op_modB (pe_callTy call_int1 (by rfl) T.n_int (by decide +kernel) (pa_cons (pe_op op_fdiv (pv 4) pe_int) pa_nil)) (pv 1)))))))))), ?_⟩
    refine ⟨fun σ H3 => ∃ y2, σ = [some (.ref a), some (.int n), y2, none, none] ∧ Exw a H H3 ∧ Wl a c H3, ?_, ?_⟩
    · obtain ⟨nac, ns, i, u, s, t, ea, ec, nn, u0⟩ := id hw
      refine rd_ix 2 rfl (sql ea) rfl ⟨rfl, _, rfl, ite2 (fun hu => ?_) fun _ => ⟨_, rfl, Exw.refl a H, hw⟩⟩
      refine rd_ix 1 rfl (sql ea) rfl (rd_ix 0 rfl (sql ea) rfl ⟨c, _, rfl, .inl (sql ec), _, _, rfl, rfl, _, rfl, ite2 (fun hi => ?_) fun _ => ⟨_, rfl, Exw.refl a H, hw⟩⟩)
      have hi : (i : Int) < ((ns.map V.int).length : Int) := of_decide_eq_true hi
      rw [List.length_map] at hi
      have hi : i < ns.length := by omega
      refine rd_ix 0 rfl (sql ea) rfl (rd_ix 1 rfl (sql ea) rfl ⟨c, _, _, .int ns[i], rfl, rfl, sql ec, atI_nat (j := i) (by simp [hi]), ?_⟩)
      have hcell : 0 ≤ ns[i] := nn _ (List.getElem_mem hi)
      refine rd_ix 1 rfl (sql ea) rfl ⟨_, _, rfl, rfl, rd_set 1 rfl ea (by decide : 1 < 5) ?_⟩
      have ea1 : (upd H a (.lst [.ref c, .int ((i : Int) + 1), .int u, .int s, .int t])) a = some (.lst [.ref c, .int ((i + 1 : Nat) : Int), .int u, .int s, .int t]) := upd_same
      have ec1 : (upd H a (.lst [.ref c, .int ((i : Int) + 1), .int u, .int s, .int t])) c = some (.lst (ns.map V.int)) := by rw [upd_ne nac.symm]; exact ec
      have x1 : Exw a H (upd H a (.lst [.ref c, .int ((i : Int) + 1), .int u, .int s, .int t])) := (Exw.refl a H).up
      show tSeq _ _ _ _ (upd H a (.lst [.ref c, .int ((i : Int) + 1), .int u, .int s, .int t]))
      generalize upd H a (.lst [.ref c, .int ((i : Int) + 1), .int u, .int s, .int t]) = H1 at ea1 ec1 x1 ⊢
      refine rd_ix 3 rfl (sql ea1) rfl ⟨_, _, rfl, rfl, cmulR (by decide) (by decide), .int ns[i], rfl, _, _, rfl, rfl, _, _, rfl, rfl, .inl ⟨_, rfl, _, _, rfl, rfl, (by show (0 : Int) < 2147483629; decide), rd_set 3 rfl ea1 (by decide : 3 < 5) ?_⟩⟩
      dsimp only
      generalize (s * 69621 + ns[i] + 11) % 2147483629 = s2
      have ea2 : (upd H1 a (.lst ([V.ref c, .int ((i + 1 : Nat) : Int), .int u, .int s, .int t].set 3 (.int s2)))) a = some (.lst [.ref c, .int ((i + 1 : Nat) : Int), .int u, .int s2, .int t]) := upd_same
      have ec2 : (upd H1 a (.lst ([V.ref c, .int ((i + 1 : Nat) : Int), .int u, .int s, .int t].set 3 (.int s2)))) c = some (.lst (ns.map V.int)) := by rw [upd_ne nac.symm]; exact ec1
      have x2 : Exw a H (upd H1 a (.lst ([V.ref c, .int ((i + 1 : Nat) : Int), .int u, .int s, .int t].set 3 (.int s2)))) := x1.up
      generalize upd H1 a (.lst ([V.ref c, .int ((i + 1 : Nat) : Int), .int u, .int s, .int t].set 3 (.int s2))) = H2 at ea2 ec2 x2 ⊢
      refine ⟨.int ns[i], rfl, _, _, rfl, rfl, ⟨by decide, by decide, by decide⟩, _, _, rfl, rfl, _, rfl, ite2 (fun _ => ?_) fun _ => ⟨_, rfl, x2, nac, ns, i + 1, u, s2, t, ea2, ec2, nn, u0⟩⟩
      refine ⟨.int ns[i], rfl, rd_set 2 rfl ea2 (by decide : 2 < 5) ⟨_, rfl, x2.up, nac, ns, i + 1, ns[i], s2, t, upd_same, by rw [upd_ne nac.symm]; exact ec2, nn, hcell⟩⟩
    · rintro σ H3 ⟨y2, rfl, x3, nac, ns, i, u, s, t, ea, ec, nn, u0⟩
      refine rd_ix 2 rfl (sql ea) rfl ⟨_, _, rfl, rfl, _, rfl, ite2 (fun _ => ?_) fun _ => ?_⟩
      · refine rd_ix 2 rfl (sql ea) rfl (.inl ⟨_, rfl, .int n, rfl, _, _, rfl, rfl, hn0, fun r r0 r1 _ => ?_⟩)
        refine rd_ix 2 rfl (sql ea) rfl ⟨.int n, rfl, _, _, rfl, rfl, ⟨hn0, hn1⟩, rd_set 2 rfl ea (by decide : 2 < 5) ⟨.int r, rfl, ?_⟩⟩
        exact q _ r x3.up ⟨nac, ns, i, u / n, s, t, upd_same, by rw [upd_ne nac.symm]; exact ec, nn, Int.ediv_nonneg u0 (by omega)⟩ r0 r1
      · refine rd_ix 4 rfl (sql ea) rfl ⟨_, _, rfl, rfl, rd_set 4 rfl ea (by decide : 4 < 5) ?_⟩
        have ea1 : (upd H3 a (.lst [.ref c, .int (i : Int), .int u, .int s, .int (t + 1)])) a = some (.lst [.ref c, .int (i : Int), .int u, .int s, .int (t + 1)]) := upd_same
        have w1 : Wl a c (upd H3 a (.lst [.ref c, .int (i : Int), .int u, .int s, .int (t + 1)])) := ⟨nac, ns, i, u, s, t + 1, upd_same, by rw [upd_ne nac.symm]; exact ec, nn, u0⟩
        have x4 : Exw a H (upd H3 a (.lst [.ref c, .int (i : Int), .int u, .int s, .int (t + 1)])) := x3.up
        show tSeq _ _ _ _ (upd H3 a (.lst [.ref c, .int (i : Int), .int u, .int s, .int (t + 1)]))
        generalize upd H3 a (.lst [.ref c, .int (i : Int), .int u, .int s, .int (t + 1)]) = H4 at ea1 w1 x4 ⊢
        refine rd_ix 3 rfl (sql ea1) rfl (rd_ix 4 rfl (sql ea1) rfl ⟨_, _, rfl, rfl, cmulL (by decide) (by decide), _, _, rfl, rfl, .inl ⟨_, rfl, _, _, rfl, rfl, cmulR (by decide) (by decide), .inl ⟨_, rfl, _, _, rfl, rfl, (by show (0 : Int) < 2147483647; decide), fun x1 a0 a1 _ => ?_⟩⟩⟩)
        refine ⟨.int x1, rfl, .int x1, rfl, _, _, rfl, rfl, ⟨by decide, by decide⟩, _, _, rfl, rfl, _, _, rfl, rfl, cmulL a0 (by omega), .inl ⟨_, rfl, _, _, rfl, rfl, (by show (0 : Int) < 2147483647; decide), fun x2 b0 b1 _ => ?_⟩⟩
        refine ⟨.int x2, rfl, .int x2, rfl, _, _, rfl, rfl, ⟨by decide, by decide⟩, _, _, rfl, rfl, _, _, rfl, rfl, cmulL b0 (by omega), .inl ⟨_, rfl, _, _, rfl, rfl, (by show (0 : Int) < 2147483399; decide), fun x3 c0 c1 _ => ?_⟩⟩
        refine ⟨.int x3, rfl, _, _, rfl, rfl, ⟨by decide, by decide⟩, .inl ⟨_, rfl, .int n, rfl, _, _, rfl, rfl, hn0, fun r r0 r1 _ => ?_⟩⟩
        exact q H4 r x4 w1 r0 r1
/-! _law_any -/
def spAny : Sp := fun vs H Q _ => ∃ (a c l : Addr) (xs : List V), vs = [.ref a, .ref l] ∧ Wl a c H ∧ l ≠ a ∧ H l = some (.lst xs) ∧ 0 < xs.length ∧ xs.length ≤ 100000 ∧ ∀ H' x, Exw a H H' → Wl a c H' → x ∈ xs → Q x H'
theorem ok_any (T : Blt mg) (ddraw : Dndraw K mg) (d : Dnany K mg) : FnOk P w K mg base CX0 2 d.f d.fd ["_law_hand_here", "_law_some"] spAny := by
  have Gdraw : FnOk P w K mg base CX0 1 ddraw.f ddraw.fd ["_law_hand_here", "_law_many"] spDraw := ok_draw T ddraw
  refine d.F.ok scany (fun vs H Q E h => ?_) (fun cdv A outer s H vs Q E hr h => ?_)
  · obtain ⟨a, c, l, xs, rfl, _⟩ := h
    rfl
  · obtain ⟨a, c, l, xs, rfl, hw, la, hl, h0, h1, q⟩ := h
    refine ⟨_, (pss_one (ps_ret (pe_ix ix_list (pv 1) (pe_call Gdraw (hr.mono (by omega)) (by rfl) ddraw.g ddraw.F.kp ddraw.b .nil pass0 (pa_cons (pv 0) (pa_cons (pe_callB call_len_seq (by rfl) T.n_len (by decide +kernel) (pa_cons (pv 1) pa_nil)) pa_nil))) (fun _ _ => rfl)))), ?_⟩
    refine ⟨.ref l, rfl, .ref a, rfl, .ref l, rfl, l, _, rfl, .inl (sql hl), a, c, (xs.length : Int), rfl, hw, by omega, by omega, fun H1 k x1 w1 k0 k1 => ?_⟩
    obtain ⟨kn, rfl⟩ := Int.eq_ofNat_of_zero_le k0
    have hk : kn < xs.length := by omega
    exact ⟨l, _, _, _, rfl, rfl, sql (x1 _ _ la hl), atI_nat (j := kn) (List.getElem?_eq_getElem hk), q H1 _ x1 w1 (List.getElem_mem hk)⟩
end
end Kb

namespace L2
open PySem PySem.Spec PyProof.Rows
section
variable {X : Cx}
/-- repr of data: what it shows -/
def rRepr (K : PySem.W.Frag) : List V → Hp → VK → Prop := fun vs H Q => ∃ (v : V) (d : PyData), vs = [v] ∧ Dp K H v d ∧ d.showable = true ∧ d.hasDict = false ∧ d.depth ≤ 60 ∧ (∀ i, v = .int i → i.natAbs.log2 < 1920) ∧ d.shown.length ≤ sizeLine ∧ Q (.str d.shown) H
theorem call_reprD (hg : X.A.guards = some []) (hu : X.A.units + 64 < cLine) : CallR X (.builtin "repr") (rRepr X.K) := by
  intro pins s σ H xs us Q I r h
  obtain ⟨v, d, rfl, hd, hs, hn, hz, hi, hl, q⟩ := h
  obtain ⟨u, rfl, ru⟩ := vals1 r
  obtain ⟨as, rd⟩ := Dp.reads I d v u hd ru
  cases hd with
  | non =>
    cases ru
    rw [PyData.shown_none] at q
    exact PySem.P.repr_of_none ⟨.str _, H, I.tok _, ⟨_, rfl⟩, q⟩
  | bl b =>
    cases ru
    rw [PyData.shown_bool] at q
    exact PySem.P.repr_of_bool ⟨.str _, H, I.tok _, ⟨_, rfl⟩, by cases b <;> exact q⟩
  | int i =>
    obtain ⟨t, rfl⟩ := ru
    rw [PyData.shown_int] at q
    exact PySem.P.repr_of_int (hi i rfl) ⟨.str _, H, I.tok _, ⟨_, rfl⟩, q⟩
  | str x =>
    obtain ⟨t, rfl⟩ := ru
    rw [PyData.shown_str] at q hl
    exact PySem.P.repr_of_str ⟨.str _, H, I.tok _, ⟨_, rfl⟩, q⟩ hl
  | lst h1 h2 =>
    cases ru
    exact repr_of_reads' rd hs (fun z => by rw [hn] at z; cases z) hg (by omega) (fun _ _ e => e) (fun h' u tk hk => ⟨.str _, H, I.kept hk, ⟨_, rfl⟩, q⟩) hl
  | tup h1 h2 =>
    cases ru
    exact repr_of_reads' rd hs (fun z => by rw [hn] at z; cases z) hg (by omega) (fun _ _ e => e) (fun h' u tk hk => ⟨.str _, H, I.kept hk, ⟨_, rfl⟩, q⟩) hl
end
end L2

namespace PySem.SeqAt
open Builtin
open AutoSeq1 (wpAny_loadPart')
/-! a dict is no text and no tuple -/
theorem dict_no_str (l : Addr) (es : Array DictEntry) (n : Nat) (dd : Option Addr) (sl : Array (Option Value)) (i : Str) (u : Tok) :
    Meets (Builtin.«dict.__eq__» ⟨[.ref l, .str i u], []⟩) (fun _ R s => s.heap.get? l = some { cls := .type "dict", dict := dd, data := .dict es n, slots := sl } ∧ R (.ok (.ret .notImplemented)) s) := by
  refine .of_wp fun prog w A R s h => ?_
  obtain ⟨hp, g, d, tk, os⟩ := s
  obtain ⟨hl, h⟩ := h
  have f1 := F.sub_str_dict
  wp_walk using wpAny_loadPart' hl
  exact ⟨_, rfl, h⟩
theorem str_no_dict (l : Addr) (es : Array DictEntry) (n : Nat) (dd : Option Addr) (sl : Array (Option Value)) (i : Str) (u : Tok) :
    Meets (Builtin.«str.__eq__» ⟨[.str i u, .ref l], []⟩) (fun _ R s => s.heap.get? l = some { cls := .type "dict", dict := dd, data := .dict es n, slots := sl } ∧ R (.ok (.ret .notImplemented)) s) := by
  refine .of_wp fun prog w A R s h => ?_
  obtain ⟨hp, g, d, tk, os⟩ := s
  obtain ⟨hl, h⟩ := h
  wp_walk using wpAny_loadPart' hl, wpAny_load hl
  exact ⟨_, rfl, h⟩
theorem dict_no_tuple (l b : Addr) (es : Array DictEntry) (items2 : Array Value) (n n2 : Nat) (dd dd2 : Option Addr) (sl sl2 : Array (Option Value)) :
    Meets (Builtin.«dict.__eq__» ⟨[.ref l, .ref b], []⟩) (fun _ R s => s.heap.get? l = some { cls := .type "dict", dict := dd, data := .dict es n, slots := sl } ∧ s.heap.get? b = some { cls := .type "tuple", dict := dd2, data := .seq items2 n2, slots := sl2 } ∧ R (.ok (.ret .notImplemented)) s) := by
  refine .of_wp fun prog w A R s h => ?_
  obtain ⟨hp, g, d, tk, os⟩ := s
  obtain ⟨hl, hb, h⟩ := h
  have f1 := F.sub_tuple_dict
  wp_walk using wpAny_loadPart' hl, wpAny_loadPart' hb
  exact ⟨_, rfl, h⟩
theorem tuple_no_dict (l b : Addr) (items : Array Value) (es : Array DictEntry) (n n2 : Nat) (dd dd2 : Option Addr) (sl sl2 : Array (Option Value)) :
    Meets (Builtin.«tuple.__eq__» ⟨[.ref l, .ref b], []⟩) (fun _ R s => s.heap.get? l = some { cls := .type "tuple", dict := dd, data := .seq items n, slots := sl } ∧ s.heap.get? b = some { cls := .type "dict", dict := dd2, data := .dict es n2, slots := sl2 } ∧ R (.ok (.ret .notImplemented)) s) := by
  refine .of_wp fun prog w A R s h => ?_
  obtain ⟨hp, g, d, tk, os⟩ := s
  obtain ⟨hl, hb, h⟩ := h
  have f1 := F.sub_dict_tuple
  wp_walk using wpAny_loadPart' hl, wpAny_loadPart' hb
  exact ⟨_, rfl, h⟩
section
variable {A : Around} {s : Shared}
theorem RcAt.dict_str {l : Addr} {es : Array DictEntry} {n : Nat} {dd : Option Addr} {sl : Array (Option Value)} (b : Str) (u : Tok) (ho : s.heap.get? l = some { cls := .type "dict", dict := dd, data := .dict es n, slots := sl }) (hu : A.units < cLine) : RcAt A s (.ref l) (.str b u) false := fun prog w E Q h =>
  rc_eq_decline_or (k := false) ⟨_, ho, rfl⟩ (typeIs_str s b u) (by decide) F.sub_str_dict F.slot_dict_eq F.slot_str_eq_refl
    (fun _ hq => call_meets F.slot_dict_eq ⟨_, ho, rfl⟩ F.entry_dict_eq (F.args_dict_eq_2 _ _) (dict_no_str l es n dd sl b u) ⟨ho, hq⟩)
    (fun _ hq => call_meets F.slot_str_eq_refl (typeIs_str s b u) F.entry_str_eq (F.args_str_eq_2 _ _) (str_no_dict l es n dd sl b u) ⟨ho, hq⟩)
    (fun _ hq => wpAny_of_eq (rfl : isSame (.ref l) (.str b u) = pure false) hq) (.inr hu) h
theorem EqAt.dict_str {l : Addr} {es : Array DictEntry} {n : Nat} {dd : Option Addr} {sl : Array (Option Value)} (b : Str) (u : Tok) (ho : s.heap.get? l = some { cls := .type "dict", dict := dd, data := .dict es n, slots := sl }) (hu : A.units < cLine) : EqAt A s (.ref l) (.str b u) false := fun prog w E Q h => by
  unfold eqBool
  refine wpAny_holding ?_
  refine wpAny_ite_split (fun hab => absurd (eq_of_beq hab) nofun) (fun _ => ?_)
  exact wpAny_bind (RcAt.dict_str b u ho hu prog w E _ (wpAny_truthy_bool h))
theorem RcAt.dict_tuple {l b : Addr} {es : Array DictEntry} {n : Nat} {dd : Option Addr} {sl : Array (Option Value)} {items2 : Array Value} (ho : s.heap.get? l = some { cls := .type "dict", dict := dd, data := .dict es n, slots := sl }) (hb : s.heap.IsTuple b items2) (hu : A.units < cLine) : RcAt A s (.ref l) (.ref b) false := fun prog w E Q h => by
  obtain ⟨⟨cls2, dd2, data2, sl2⟩, ho2, hc2, n2, hd2⟩ := id hb
  simp only at hc2 hd2
  subst hc2 hd2
  have hne : l ≠ b := fun e => by
    subst e
    rw [ho] at ho2
    exact absurd ho2 (by simp)
  exact (rc_eq_decline_or (k := false) ⟨_, ho, rfl⟩ ⟨_, ho2, rfl⟩ (by decide) F.sub_tuple_dict F.slot_dict_eq F.slot_tuple_eq_refl
    (fun _ hq => call_meets F.slot_dict_eq ⟨_, ho, rfl⟩ F.entry_dict_eq (F.args_dict_eq_2 _ _) (dict_no_tuple l b es items2 n n2 dd dd2 sl sl2) ⟨ho, ho2, hq⟩)
    (fun _ hq => call_meets F.slot_tuple_eq_refl ⟨_, ho2, rfl⟩ F.entry_tuple_eq (F.args_tuple_eq_2 _ _) (tuple_no_dict b l items2 es n2 n dd2 dd sl2 sl) ⟨ho2, ho, hq⟩)
    (fun _ hq => wpAny_isSame_ref_other hne ho ho2 (by simp) hq) (.inr hu) h)
end
end PySem.SeqAt
namespace L2
open PySem PySem.Spec PyProof.Rows Builtin
variable {X : Cx} {pins : List (Addr × Obj)} {σ : St} {H : Hp} {s : Shared}
/-! anything against a text -/
def EqS (K : PySem.W.Frag) (H : Hp) (x : V) (z : Str) (c : Bool) : Prop :=
  (x = .non ∧ c = false) ∨ (∃ i, x = .int i ∧ c = false) ∨ (∃ b, x = .bl b ∧ c = false) ∨ (∃ y, x = .str y ∧ c = decide (y = z)) ∨
  ∃ a, x = .ref a ∧ c = false ∧ ((∃ xs, SqL K H a xs) ∨ (∃ xs, SqT K H a xs) ∨ ∃ k, H a = some (.dK k))
theorem dict_at (I : Inv X pins σ H s) {a : Addr} {k : List (Key × V)} (e : H a = some (.dK k)) : ∃ es n dd sl, s.heap.get? a = some { cls := .type "dict", dict := dd, data := .dict es n, slots := sl } := by
  obtain ⟨_, low, vs, _, dd⟩ := (show ObjOk X.prog X.w H s.heap a (.dK k) from I.hok a _ e)
  obtain ⟨o, es, n, ho, shape, r⟩ := dd
  obtain ⟨cls, dct, data, sl⟩ := o
  obtain ⟨c1, c2, c3⟩ := shape
  obtain ⟨c4, _⟩ := r
  simp only at c1 c4
  subst c1 c4
  exact ⟨es, n, dct, sl, ho⟩
theorem str_dec (y z : Str) : (y == z) = decide (y = z) := by
  by_cases h : y = z
  · rw [decide_eq_true h, h]
    exact beq_self_eq_true z
  · rw [decide_eq_false h]
    exact beq_eq_false_iff_ne.mpr h
theorem EqS.rc (I : Inv X pins σ H s) {A : Around} (hu : A.units < cLine) {x : V} {v : Value} {z : Str} {t : Tok} {c : Bool} (h : EqS X.K H x z c) (r : RelV x v) : SeqAt.RcAt A s v (.str z t) c := by
  rcases h with ⟨rfl, rfl⟩ | ⟨i, rfl, rfl⟩ | ⟨b, rfl, rfl⟩ | ⟨y, rfl, rfl⟩ | ⟨a, rfl, rfl, h⟩
  · cases (show v = Value.none from r)
    exact SeqAt.RcAt.none_str z t
  · obtain ⟨t', rfl⟩ := r
    exact SeqAt.RcAt.int_str i t' z t
  · cases (show v = Value.bool b from r)
    exact SeqAt.RcAt.bool_str b z t
  · obtain ⟨t', rfl⟩ := r
    rw [← str_dec]
    exact SeqAt.RcAt.str_str y t' z t
  · cases (show v = Value.ref a from r)
    rcases h with ⟨xs, h⟩ | ⟨xs, h⟩ | ⟨k, h⟩
    · obtain ⟨its, _, p, _⟩ := I.list h
      exact SeqAt.RcAt.list_str z t p.isList hu
    · obtain ⟨its, _, p, _⟩ := I.tuple h
      exact SeqAt.RcAt.tuple_str z t p hu
    · obtain ⟨es, n, dd, sl, ho⟩ := dict_at I h
      exact SeqAt.RcAt.dict_str z t ho hu
theorem EqS.eq (I : Inv X pins σ H s) {A : Around} (hu : A.units < cLine) {x : V} {v : Value} {z : Str} {t : Tok} {c : Bool} (h : EqS X.K H x z c) (r : RelV x v) : SeqAt.EqAt A s v (.str z t) c := by
  rcases h with ⟨rfl, rfl⟩ | ⟨i, rfl, rfl⟩ | ⟨b, rfl, rfl⟩ | ⟨y, rfl, rfl⟩ | ⟨a, rfl, rfl, h⟩
  · cases (show v = Value.none from r)
    exact SeqAt.EqAt.none_str z t
  · obtain ⟨t', rfl⟩ := r
    exact SeqAt.EqAt.int_str i t' z t
  · cases (show v = Value.bool b from r)
    exact SeqAt.EqAt.bool_str b z t
  · obtain ⟨t', rfl⟩ := r
    rw [← str_dec]
    exact SeqAt.EqAt.str_str y t' z t
  · cases (show v = Value.ref a from r)
    rcases h with ⟨xs, h⟩ | ⟨xs, h⟩ | ⟨k, h⟩
    · obtain ⟨its, _, p, _⟩ := I.list h
      exact SeqAt.EqAt.list_str z t p.isList hu
    · obtain ⟨its, _, p, _⟩ := I.tuple h
      exact SeqAt.EqAt.tuple_str z t p hu
    · obtain ⟨es, n, dd, sl, ho⟩ := dict_at I h
      exact SeqAt.EqAt.dict_str z t ho hu
/-- anything == a text -/
theorem op_eqS {K : PySem.W.Frag} (hK : X.K = K) (hu : X.A.units + 64 < cLine) : OpR X (compareOp .Eq) (fun x y H Q => ∃ z c, y = .str z ∧ EqS K H x z c ∧ Q (.bl c) H) := by
  subst hK
  intro pins s σ H x y v u Q I rx ry h
  obtain ⟨z, c, rfl, e, q⟩ := h
  obtain ⟨t, rfl⟩ := ry
  exact EqS.rc I (by omega) e rx _ _ _ _ ⟨.bl c, H, I, rfl, q⟩
/-! anything against a tuple of one text -/
def EqT (K : PySem.W.Frag) (H : Hp) (x : V) (z : Str) (c : Bool) : Prop :=
  (c = false ∧ (x = .non ∨ (∃ i, x = .int i) ∨ (∃ b, x = .bl b) ∨ ∃ y, x = .str y)) ∨
  ∃ a, x = .ref a ∧ ((c = false ∧ ((∃ xs, SqL K H a xs) ∨ ∃ k, H a = some (.dK k))) ∨ (∃ xs, SqT K H a xs ∧ ((xs = [] ∧ c = false) ∨ ∃ x0 r c0, xs = x0 :: r ∧ EqS K H x0 z c0 ∧ c = (c0 && decide (r = []))))) 
theorem vals_nil {its : List Value} (h : Vals [] its) : its = [] := by cases h; rfl
theorem vals_cons {x : V} {xs : List V} {its : List Value} (h : Vals (x :: xs) its) : ∃ v r, its = v :: r ∧ RelV x v ∧ Vals xs r := by
  cases h with
  | cons h t => exact ⟨_, _, rfl, h, t⟩
theorem EqT.rc (I : Inv X pins σ H s) {A : Around} (hu : A.units + 64 < cLine) (hu1 : A.in1.units < cLine) {x : V} {v : Value} {b : Addr} {z : Str} {c : Bool} (h : EqT X.K H x z c) (r : RelV x v) (hb : SqT X.K H b [.str z]) : SeqAt.RcAt A s v (.ref b) c := by
  obtain ⟨its2, rv2, p2, _⟩ := I.tuple hb
  have hu0 : A.units < cLine := by omega
  obtain ⟨w2, r2, rfl, rz, rr⟩ := vals_cons rv2
  obtain rfl := vals_nil rr
  obtain ⟨t, rfl⟩ := rz
  rcases h with ⟨rfl, h⟩ | ⟨a, rfl, h⟩
  · rcases h with rfl | ⟨i, rfl⟩ | ⟨j, rfl⟩ | ⟨y, rfl⟩
    · cases (show v = Value.none from r)
      exact SeqAt.RcAt.none_tuple p2 hu0
    · obtain ⟨t', rfl⟩ := r
      exact SeqAt.RcAt.int_tuple i t' p2 hu0
    · cases (show v = Value.bool j from r)
      exact SeqAt.RcAt.bool_tuple j p2 hu0
    · obtain ⟨t', rfl⟩ := r
      exact SeqAt.RcAt.str_tuple y t' p2 hu0
  · cases (show v = Value.ref a from r)
    rcases h with ⟨rfl, ⟨xs, h⟩ | ⟨k, h⟩⟩ | ⟨xs, hx, h⟩
    · obtain ⟨its, _, p, _⟩ := I.list h
      exact SeqAt.RcAt.list_tuple p.isList p2 hu0
    · obtain ⟨es, n, dd, sl, ho⟩ := dict_at I h
      exact SeqAt.RcAt.dict_tuple ho p2 hu0
    · obtain ⟨its, rv, p, _⟩ := I.tuple hx
      rcases h with ⟨rfl, rfl⟩ | ⟨x0, rs, c0, rfl, e0, rfl⟩
      · obtain rfl := vals_nil rv
        have := SeqAt.RcAt.tuples (e := fun _ => false) p p2 hu0 (fun j j1 j2 => absurd j1 (by simp))
        exact this
      · obtain ⟨v0, r0, rfl, rel0, rrs⟩ := vals_cons rv
        have := SeqAt.RcAt.tuples (A := A) (e := fun _ => c0) p p2 hu0 (fun j j1 j2 => by
          have j0 : j = 0 := by simpa using j2
          subst j0
          exact EqS.eq I hu1 e0 rel0)
        have l1 : rs.length = r0.length := Paired.length rrs
        have e2 : ((List.range (min (v0 :: r0).toArray.size [Value.str z t].toArray.size)).all (fun _ => c0) && (v0 :: r0).toArray.size == [Value.str z t].toArray.size) = (c0 && decide (rs = [])) := by
          cases rs with
          | nil =>
            cases r0 with
            | nil => simp
            | cons _ _ => simp at l1
          | cons y ys =>
            cases r0 with
            | nil => simp at l1
            | cons _ _ => simp
        rw [e2] at this
        exact this
/-- anything == a tuple of one text -/
theorem op_eqT {K : PySem.W.Frag} (hK : X.K = K) (hu : X.A.units + 64 < cLine) : OpR X (compareOp .Eq) (fun x y H Q => ∃ b z c, y = .ref b ∧ SqT K H b [.str z] ∧ EqT K H x z c ∧ Q (.bl c) H) := by
  subst hK
  intro pins s σ H x y v u Q I rx ry h
  obtain ⟨b, z, c, rfl, hb, e, q⟩ := h
  cases (show u = Value.ref b from ry)
  exact EqT.rc I hu (by have : X.A.in1.units ≤ X.A.units + 1 := by simp [Around.in1, Around.units]
                        omega) e rx hb _ _ _ _ ⟨.bl c, H, I, rfl, q⟩
end L2

namespace Kb
open PySem PySem.Spec PyProof.Rows L2
/-! try: .. except A as n: .. except ..: where each error of the body is A's -/
def wFirst (K : PySem.W.Frag) (c : Value) (i : Nat) (ts : Addr → Value → Option Addr → TS) (D : Ends) : WX := fun cls d σ H =>
  PySem.W.exmOne K cls c = some true ∧ ∀ a, H a = none → ts a cls d { nx := fun σ' H' => D.nx (σ'.set i none) H', rt := D.rt, bk := fun σ' H' => D.bk (σ'.set i none) H', ct := fun σ' H' => D.ct (σ'.set i none) H' } (σ.set i (some (.ref a))) H
section
variable {X : Cx} {x n : Str} {c : Value} {i : Nat} {body rest : List Stmt} {first : Stmt} {more : List ExceptHandler} {np pos hpos : Pos} {tb : WX → TS} {ts : Addr → Value → Option Addr → TS}
theorem ps_try_first (stk : X.stack = X.env :: X.outer) (frm : X.env.frame = some X.env.locals) (nd : X.N.Nodup) (at_ : X.N[i]? = some n) (loc : X.env.kindOf n = some .local) (nam : Names X x c)
    (runs : ∀ (W : WX) (pn : List (Addr × Obj)) (way : Value → Shared → Prop), L2.Takes (X.tr pn way) W → PassesOwn (model X.prog X.w) X.A X.env way → PSs (X.tr pn way) body (tb W))
    (caught : ∀ (a : Addr) (oe : Obj) (cls : Value) (d : Option Addr) (pn : List (Addr × Obj)), Zc cls d oe → (∃ vs, oe.data = .fields vs) → PSs (X.suite a ((a, oe) :: pn)) (first :: rest) (ts a cls d)) :
    PS X (.Try body (.ExceptHandler (some (.Name x np)) (some n) (first :: rest) hpos :: more) [] [] pos) (fun D σ H => tb (wFirst X.K c i ts D) D σ H) := by
  refine ⟨fun pins s σ H D I reads => ?_⟩
  have good := I.ok
  have fr : X.A.frames = some (X.env :: X.outer) := by rw [good.frames, stk]
  refine wpAny_Try_except ?_
  have whole := (runs (wFirst X.K c i ts D) (X.pn ++ pins) (fun e t1 => wpAny (model X.prog X.w) X.A (noteFrame e X.env) (fun _ t2 => wpAny (model X.prog X.w) X.A (setFlight e none) (fun _ t3 =>
    wpAny (model X.prog X.w) X.A (handleBy e X.env (.ExceptHandler (some (.Name x np)) (some n) (first :: rest) hpos :: more)) (SP X pins D) X.xe t3) X.xe t2) X.xe t1) (fun u s' air => ?_) PassesOwn.looking).run [] s σ H D (I.toTry _) reads
  · refine wpAny_mono whole (fun fl s1 got => ?_) fun _ _ z => z
    cases fl with
    | next => exact wpAny_execs_nil (let ⟨σ', H', J, q⟩ := got; ⟨σ', H', J.ofTry good, q⟩)
    | brk => exact let ⟨σ', H', J, q⟩ := got; ⟨σ', H', J.ofTry good, q⟩
    | cont => exact let ⟨σ', H', J, q⟩ := got; ⟨σ', H', J.ofTry good, q⟩
    | ret u => exact let ⟨v, σ', H', J, r, q⟩ := got; ⟨v, σ', H', J.ofTry good, r, q⟩
  · obtain ⟨a, B, sI, pins1, σ1, H1, cls, d, eu, J0, ground, up, sky, na, os, ag, yes, suite⟩ := air
    subst eu
    have J : L2.Inv X pins σ1 H1 sI := J0.ofTry good
    have sky : Sky B X.stack a (Zc cls d) X.env.locals s'.heap := sky
    rw [stk] at sky
    show wpAny (model X.prog X.w) X.A (noteFrame (.ref a) X.env) _ _ s'
    refine Sky.land Zc.steady fr frm sky fun g3 fly3 up3 => ?_
    have J3 : L2.Inv X pins σ1 H1 { s' with heap := g3 } := J.landed ground fly3.1 (up.trans up3) os ag
    obtain ⟨o3, v3, e3, z3, d3⟩ := fly3.there
    have offFrames : a ∉ frs (X.env :: X.outer) := fun hm => by
      obtain ⟨_, o', e', nofields⟩ := fly3.2.2.1.mem hm
      rw [e3] at e'
      cases e'
      exact nofields _ d3
    have offL : a ≠ X.env.locals := fun z => offFrames (List.mem_filterMap.mpr ⟨X.env, List.mem_cons_self, by rw [frm, z]⟩)
    have offF : a ∉ X.fs := fun hm => by
      obtain ⟨e, he, q⟩ := List.mem_filterMap.mp hm
      exact offFrames (List.mem_filterMap.mpr ⟨e, List.mem_cons_of_mem _ he, q⟩)
    have in3 := J3.suite e3 d3 na offL offF
    refine wpAny_handleBy_cons (codeAny_handlers_test ?_) (by intro q; cases q)
    have its : PySem.W.Looks (model X.prog X.w) g3 (typeOf (.ref a)) cls := fun _ _ _ _ keep q => wpAny_typeOf_ref (keep _ _ e3) (by rw [z3.1]; exact q)
    have asks := PySem.W.exm_one (M := model X.prog X.w) J3.kIn its yes
    have named : ∀ {R : Value → Shared → Prop} {way : Value → Shared → Prop}, R c { s' with heap := g3 } → wpAny (model X.prog X.w) (X.A.mark (some (.ref a))) (eval (.Name x np) X.env) R way { s' with heap := g3 } := fun {R way} q =>
      match nam with
      | ⟨gl, nodebug, .inl own⟩ => ld_glob (X := X.suite a ((a, o3) :: (X.pn ++ pins))) in3 gl own q nodebug
      | ⟨gl, nodebug, .inr ⟨none_, boot, nonm⟩⟩ => ld_blt (X := X.suite a ((a, o3) :: (X.pn ++ pins))) in3 gl none_ boot q nonm nodebug
    refine named (asks.here (codeAny_handlers_suite_as (HandSPX.lands_againZ fly3 fun g4 fly4 up4 => ?_)))
    have J4 : L2.Inv X pins σ1 H1 { s' with heap := g4 } := J.landed ground fly4.1 ((up.trans up3).trans up4) os ag
    obtain ⟨o4, v4, e4, z4, d4⟩ := fly4.there
    refine store_ok (X := X.suite a ((a, o4) :: (X.pn ++ pins))) (v := .ref a) (J4.suite e4 d4 na offL offF) nd at_ (.inl loc) rfl (fun s5 in5 => ?_) (.inr loc)
    refine wpAny_mono ((caught a o4 cls d (X.pn ++ pins) z4 ⟨_, d4⟩).run [] s5 _ H1 _ in5 (suite a na)) (fun fl s6 got => ?_) fun _ _ z => z.elim
    have over : ∀ {σ6 : L2.St} {H6 : Hp} {R : Shared → Prop}, L2.Inv (X.suite a ((a, o4) :: (X.pn ++ pins))) [] σ6 H6 s6 → (∀ s7, L2.Inv X pins (σ6.set i none) H6 s7 → R s7) →
        wpAny (model X.prog X.w) X.A (do bindName X.env n .none; unbindBehindTheSuite X.env n hpos) (fun _ s7 => R s7) X.xe s6 := fun in6 q => gone_ok (in6.unsuite good) nd at_ loc q
    cases fl with
    | next => exact let ⟨_, _, in6, q6⟩ := got; over in6 fun _ J7 => ⟨_, _, J7, q6⟩
    | brk => exact let ⟨_, _, in6, q6⟩ := got; over in6 fun _ J7 => ⟨_, _, J7, q6⟩
    | cont => exact let ⟨_, _, in6, q6⟩ := got; over in6 fun _ J7 => ⟨_, _, J7, q6⟩
    | ret u => exact let ⟨_, _, _, in6, r6, q6⟩ := got; over in6 fun _ J7 => ⟨_, _, _, J7, r6, q6⟩
end
end Kb

namespace PySem.SeqAt
open Builtin
section
variable {A : Around} {s : Shared}
theorem RcAt.str_dict {l : Addr} {es : Array DictEntry} {n : Nat} {dd : Option Addr} {sl : Array (Option Value)} (b : Str) (u : Tok) (ho : s.heap.get? l = some { cls := .type "dict", dict := dd, data := .dict es n, slots := sl }) (hu : A.units < cLine) : RcAt A s (.str b u) (.ref l) false := fun prog w E Q h =>
  rc_eq_decline_or (k := false) (typeIs_str s b u) ⟨_, ho, rfl⟩ (by decide) F.sub_dict_str F.slot_str_eq F.slot_dict_eq
    (fun _ hq => call_meets F.slot_str_eq (typeIs_str s b u) F.entry_str_eq (F.args_str_eq_2 _ _) (str_no_dict l es n dd sl b u) ⟨ho, hq⟩)
    (fun _ hq => call_meets F.slot_dict_eq ⟨_, ho, rfl⟩ F.entry_dict_eq (F.args_dict_eq_2 _ _) (dict_no_str l es n dd sl b u) ⟨ho, hq⟩)
    (fun _ hq => wpAny_of_eq (rfl : isSame (.str b u) (.ref l) = pure false) hq) (.inr hu) h
theorem EqAt.str_dict {l : Addr} {es : Array DictEntry} {n : Nat} {dd : Option Addr} {sl : Array (Option Value)} (b : Str) (u : Tok) (ho : s.heap.get? l = some { cls := .type "dict", dict := dd, data := .dict es n, slots := sl }) (hu : A.units < cLine) : EqAt A s (.str b u) (.ref l) false := fun prog w E Q h => by
  unfold eqBool
  refine wpAny_holding ?_
  refine wpAny_ite_split (fun hab => absurd (eq_of_beq hab) nofun) (fun _ => ?_)
  exact wpAny_bind (RcAt.str_dict b u ho hu prog w E _ (wpAny_truthy_bool h))
end
end PySem.SeqAt
namespace L2
open PySem PySem.Spec PyProof.Rows Builtin
variable {X : Cx} {pins : List (Addr × Obj)} {σ : St} {H : Hp} {s : Shared}
/-- a list, tuple or dict in a tuple of texts -/
theorem op_inO {K : PySem.W.Frag} (hK : X.K = K) (hu : X.A.units + 64 < cLine) : OpR X (compareOp .In) (fun x y H Q => ∃ (a p : Addr) (zs : List Str), x = .ref a ∧ y = .ref p ∧ ((∃ xs, SqL K H a xs) ∨ (∃ xs, SqT K H a xs) ∨ ∃ k, H a = some (.dK k)) ∧ SqT K H p (zs.map V.str) ∧ Q (.bl false) H) := by
  subst hK
  intro pins s σ H x y v u Q I rx ry h
  obtain ⟨a, p, zs, rfl, rfl, ha, hp, q⟩ := h
  cases (show v = Value.ref a from rx)
  cases (show u = Value.ref p from ry)
  obtain ⟨its, r, pl, hz⟩ := I.tuple hp
  have hu1 : X.A.in1.units < cLine := by
    have : X.A.in1.units ≤ X.A.units + 1 := by simp [Around.in1, Around.units]
    omega
  have all : ∀ {zs : List Str} {its : List Value}, Vals (zs.map V.str) its → ∀ y ∈ its, ∃ z t, y = Value.str z t := by
    intro zs
    induction zs with
    | nil =>
      intro its r y hy
      cases r
      cases hy
    | cons z zs ih =>
      intro its r y hy
      cases r with
      | cons h t =>
        obtain ⟨tk, rfl⟩ := h
        rcases List.mem_cons.mp hy with rfl | hy
        · exact ⟨z, tk, rfl⟩
        · exact ih t y hy
  refine SeqAt.in_tupleAt (fun _ => false) pl (fun y hy => ?_) ⟨.bl false, H, I, ?_, q⟩
  · obtain ⟨z, t, rfl⟩ := all r y (by simpa using hy)
    rcases ha with ⟨xs, h⟩ | ⟨xs, h⟩ | ⟨k, h⟩
    · obtain ⟨its, _, p, _⟩ := I.list h
      exact SeqAt.EqAt.str_list z t p.isList hu1
    · obtain ⟨its, _, p, _⟩ := I.tuple h
      exact SeqAt.EqAt.str_tuple z t p hu1
    · obtain ⟨es, n, dd, sl, ho⟩ := dict_at I h
      exact SeqAt.EqAt.str_dict z t ho hu1
  · show Value.bool _ = Value.bool false
    congr 1
    simp
/-- a tuple != () -/
theorem op_neT0 {K : PySem.W.Frag} (hK : X.K = K) (hu : X.A.units + 64 < cLine) : OpR X (compareOp .NotEq) (fun x y H Q => ∃ (a b : Addr) (xs : List V), x = .ref a ∧ y = .ref b ∧ SqT K H a xs ∧ SqT K H b [] ∧ Q (.bl (!decide (xs = []))) H) := by
  subst hK
  intro pins s σ H x y v u Q I rx ry h
  obtain ⟨a, b, xs, rfl, rfl, ha, hb, q⟩ := h
  cases (show v = Value.ref a from rx)
  cases (show u = Value.ref b from ry)
  obtain ⟨its, r, p, _⟩ := I.tuple ha
  obtain ⟨its2, r2, p2, _⟩ := I.tuple hb
  obtain rfl := vals_nil r2
  have := SeqAt.RcNeAt.tuples (A := X.A) (e := fun _ => false) p p2 (by omega) (fun j j1 j2 => absurd j2 (by simp))
  have e : (!((List.range (min its.toArray.size ([] : List Value).toArray.size)).all (fun _ => false) && its.toArray.size == ([] : List Value).toArray.size)) = !decide (xs = []) := by
    have hl := r.length
    cases xs with
    | nil =>
      cases its with
      | nil => simp
      | cons _ _ => simp at hl
    | cons _ _ =>
      cases its with
      | nil => simp at hl
      | cons _ _ => simp
  rw [e] at this
  exact this _ _ _ _ ⟨.bl _, H, I, rfl, q⟩
end L2

namespace L2
open PySem PySem.Spec PyProof.Rows
/-! errors as values beside other data -/
/-- a value's type, errors too -/
def TyD (K : PySem.W.Frag) (H : Hp) (v : V) (t : Value) : Prop := TyX K H v t ∨ ∃ a C, v = .ref a ∧ t = .ref C ∧ H a = some (ExO (.ref C) a) ∧ ExcC K C
def rIsD (K : PySem.W.Frag) : List V → Hp → VK → Prop := fun xs H Q => ∃ (x c : V) (t u : Value) (b : Bool), xs = [x, c] ∧ ClsV c u ∧ TyD K H x t ∧ PySem.W.kitOne K t u = some b ∧ Q (.bl b) H
section
variable {X : Cx}
theorem call_isD {K : PySem.W.Frag} (hK : X.K = K) : CallR X (.builtin "isinstance") (rIsD K) := by
  subst hK
  intro pins s σ H xs us Q I r h
  obtain ⟨x, c, t, u, b, rfl, k, ty | ⟨a, C, rfl, rfl, ha, hC⟩, e, q⟩ := h
  · exact call_isi pins s σ H _ us Q I r ⟨x, c, t, u, b, rfl, k, ty, e, q⟩
  · obtain ⟨u1, u2, rfl, r1, r2⟩ := vals2 r
    have e2 := k.eq r2
    subst e2
    cases r1
    obtain ⟨⟨oe, vs, ho, hz, hd, _⟩, _, _⟩ := I.hok a _ ha
    have J : PySem.W.InstAt s.heap a oe C none := by
      obtain ⟨oc, od, oda, osl⟩ := oe
      obtain ⟨h1, h2⟩ := hz
      dsimp only at h1 h2 hd
      subst h1 h2 hd
      exact ⟨ho, rfl, rfl, trivial⟩
    exact PySem.W.kia_one (PySem.W.handS_kitx_exc hC.hg hC.hk hC.hs hC.hd hC.ha hC.hn hC.ht hC.hm) I.kIn J e (fun z => nomatch z) fun tk => ⟨.bl b, H, I.kept (t' := tk) fun _ _ z => z, rfl, q⟩
/-- C(), an own class of errors without own __init__, as a value -/
theorem pe_exc0 {C : Addr} {bmB : List Value} {B newId initId : String} {x : Str} {p pos : Pos} (F : ExcBaseFacts B newId initId bmB) (q : PySem.W.excIn X.K C bmB newId = true) (gC : X.mg x = some (.ref C)) (kC : PySem.W.keepIn X.K (.ref C) = true) (hg : Gl X x) (hdb : (x == ("__debug__" : Str)) = false := by decide) :
    PE X (.Call (.Name x p) [] [] pos) (fun σ H Q => ∀ a, H a = none → Q (.ref a) (upd H a (ExO (.ref C) a))) := by
  refine ⟨fun pins s σ H Q I h => ?_⟩
  refine wpAny_Call_Name_kw (ld_glob I hg gC ?_ hdb)
  refine PySem.W.callWith_K0 I.kIn kC ?_
  obtain ⟨bm, N, nm, qn, bs, hdct, sn, sub, ab, col, dd, k0, k1, k2, k3, k5, mN, hC, hN, hni, T⟩ := exc_obj I.kIn q
  refine wpAny_call_exc_subT F T hC hN hni (fun h' a hm => ?_) (Nat.zero_le _)
  have hn : H a = none := I.hok.gone hm.new
  obtain ⟨t, ht, _, _⟩ := hm.there
  exact ⟨.ref a, upd H a (ExO (.ref C) a), I.laidN hm.keeps hm.new hn (exO_ok ht ⟨rfl, rfl⟩ rfl rfl rfl (show 4 < 6 by decide)), rfl, h a hn⟩
/-- what a raising call wishes, where the store isn't told -/
def EL (n : Nat) (W : WX) : XK := fun c d H => ∀ σ : L2.St, σ.length = n → W c d σ H
theorem passEL {W : WX} {n : Nat} (hn : X.N.length = n) (tk : Takes X W) : Passes (L2.CX X.prog X.w) X (EL n W) := fun pins σ H s e s' I c => tk e s' (XE.of_call I (fun _ _ _ h => h σ (I.len.trans hn)) c)
end
end L2

namespace L2
open PySem PySem.Spec PyProof.Rows
/-! a law's own def, called from the top: nothing is being shown there -/
abbrev AllTrue : VK := fun r _ => r = .bl true
abbrev NoErr : XK := fun _ _ _ => False
/-- the def f keeps its promise where the claim's caller calls it with one thing -/
def TopOk (P : Program) (w : World) (K : PySem.W.Frag) (mg : Str → Option Value) (f : Addr) (fd : FuncData) (x : Str) (sp : Sp) : Prop :=
  ∀ (base : Heap) (s : Shared) (H : Hp) (u : Value) (v : V), Env0 P w K mg base callerA [] s H → RelV v u →
    BindsTo s fd ⟨[u], []⟩ [(x, u)] → sp [v] H AllTrue NoErr → codeAny (model P w) callerA (.call (.ref f) ⟨[u], []⟩) (CR CX0 [] P w H s AllTrue NoErr) s
/-- .. out of its body, read where no guard stands -/
theorem top_of {P : Program} {w : World} {K : PySem.W.Frag} {mg : Str → Option Value} {f : Addr} {fd : FuncData} {nm qual x : Str} {st : Stmt} {N : List Str} {k : Nat} {sp : Sp}
    (F : Fun K nm qual st f fd) (S : FnScope N [x] (defScope st)) (room : Room (k + 1) callerA)
    (body : ∀ (base : Heap) (cdv : Value) (A : Around) (s : Shared) (H : Hp) (v : V), A.guards = some [] → Room k (A.deeper (envOfC qual (defScope st) s.heap.objs.size f cdv)) → sp [v] H AllTrue NoErr →
      ∃ t, PSs (cxOf CX0 P w K mg base N qual (defScope st) f cdv A [] s H NoErr).nox (defBody st) t ∧
        t { nx := fun _ H1 => AllTrue .non H1, rt := AllTrue } (start N [v]) H) :
    TopOk P w K mg f fd x sp := by
  intro base s H u v e0 rv binds hsp
  obtain ⟨oc, od, kV, doc, pm, an, cdv, ct, osl, rfl, lk, known⟩ := F.ex
  have inH : ∀ b o, base.get? b = some o → s.heap.get? b = some o := fun b o q => (e0.bs b o q).1
  have lim := e0.mod.nolimit.keeps inH
  have here := e0.mod.kin.keeps inH
  obtain ⟨t, reads, ends⟩ := body base cdv callerA s H v rfl (room.deeper _) hsp
  refine codeAny_call_function room.depth (here _ _ lk) rfl S.co S.gen rfl (PySem.W.codeRec_of here known) (binds _ _ _ _ ?_)
  refine wpAny_newFunctionEnv_cells S.kind (fun y hy => ?_) fun env same s1 entered => ?_
  · cases List.mem_singleton.mp hy
    refine (S.par x List.mem_cons_self).imp id fun q => ⟨q, ?_⟩
    exact PySem.W.cellsFrom_some _ _ _ (.inl q)
  · cases same
    have I := inv_start (CX := CX0) (E := NoErr) (us := [u]) (vs := [v]) S room.hd e0 rfl (.cons rv .nil) entered
    refine ⟨lim.keeps entered.toInCall.keep, codeAny_func ?_⟩
    refine wpAny_mono (reads.nox.run [] s1 (start N [v]) H _ I ends) (fun fl s2 got => ?_) fun _ _ z => z
    match fl, got with
    | .ret _, ⟨r, _, H2, J, rr, q⟩ => exact ⟨r, H2, J.os, J.bare, J.base, J.hok, rr, q⟩
    | .next, ⟨_, H2, J, q⟩ => exact ⟨.non, H2, J.os, J.bare, J.base, J.hok, rfl, q⟩
    | .brk, ⟨_, _, _, q⟩ => exact q.elim
    | .cont, ⟨_, _, _, q⟩ => exact q.elim
/-- the script, where the module doesn't have it itself -/
def oneS (a : Addr) (vs : List Value) (ns : List Int) : Hp := fun b => if b = a then some (.frz { cls := .type "list", data := .seq vs.toArray } (.lst (ns.map V.int))) else none
theorem oneS_is {a b : Addr} {vs : List Value} {ns : List Int} {u : HO} (h : oneS a vs ns b = some u) : b = a ∧ u = .frz { cls := .type "list", data := .seq vs.toArray } (.lst (ns.map V.int)) := by
  unfold oneS at h
  split at h
  · exact ⟨‹_›, (Option.some.inj h).symm⟩
  · cases h
/-- a start for the law's def: what it tracks is the script or nothing -/
theorem top_run {P : Program} {w : World} {K : PySem.W.Frag} {mg mb : Str → Option Value} {f a : Addr} {fd : FuncData} {x : Str} {sp : Sp} {s : Shared} {vs : List Value} {H : Hp}
    (inK : K.In s.heap) (globals : s.heap.Ns mainGlobals mg) (built : s.heap.Ns builtinsNs mb) (asBoot : ∀ y : Str, y ≠ "__name__" → mb y = bootBuiltins y) (lim : s.heap.NoLimit) (quiet : s.gens = #[])
    (script : s.heap.get? a = some { cls := .type "list", data := .seq vs.toArray }) (only : ∀ b u, H b = some u → b = a ∧ K.lookup a = none ∧ ∃ xs, u = .frz { cls := .type "list", data := .seq vs.toArray } (.lst xs))
    (hok : HOk P w H s.heap) (law : TopOk P w K mg f fd x sp) (binds : ∀ (s : Shared) (u : Value), BindsTo s fd ⟨[u], []⟩ [(x, u)]) (promise : sp [.ref a] H AllTrue NoErr) :
    codeAny (model P w) callerA (.call (.ref f) ⟨[.ref a], []⟩) (fun r s2 => r = .ok (.ret (.bool true)) ∧ OldK s.heap s2.heap ∧ s2.os = s.os ∧ AllBare s2.gens) s := by
  have free : ∀ {b : Addr} {o : Obj}, s.heap.get? b = some o → (b = a → K.lookup a = none → False) → H b = none := fun {b o} e no => by
    cases q : H b with
    | none => rfl
    | some u => exact (no (only b u q).1 (only b u q).2.1).elim
  have names : ∀ {b : Addr} {m : Str → Option Value}, s.heap.Ns b m → (hidT s.heap H).Ns b m := fun {b m} ⟨o, es, n, e, d, more⟩ => by
    refine ⟨o, es, n, hidT_get e (free e fun z _ => ?_), d, more⟩
    rw [z, script] at e
    cases e
    cases d
  have modK : K.In (hidT s.heap H) := fun b o e => hidT_get (inK b o e) (free (inK b o e) fun z no => by rw [z, no] at e; cases e)
  have start : Env0 P w K mg (hidT s.heap H) callerA [] s H :=
    { frames := rfl
      mod := ⟨modK, names globals, ⟨mb, names built, asBoot⟩, let ⟨m, l1, l2⟩ := lim; ⟨m, names l1, l2⟩⟩
      bs := fun _ _ e => of_hidT e
      bsz := by rw [hidT_size]; exact Nat.le_refl _
      funs := trivial
      frf := fun _ hb => nomatch hb
      hok := hok
      bare := .of_eq quiet }
  refine codeAny_mono (law _ s H (.ref a) (.ref a) start rfl (binds s _) promise) fun r s2 got => ?_
  match r, got with
  | .error _, z => exact z.elim
  | .ok .next, z => exact z.elim
  | .ok .brk, z => exact z.elim
  | .ok .cont, z => exact z.elim
  | .ok (.ret u), ⟨v, H2, os, bare, un, hok2, rv, yes⟩ =>
    subst yes
    cases rv
    refine ⟨rfl, OldK.of_keep fun b o e => ?_, os, bare⟩
    cases q : H b with
    | none => exact un.keep b o e q (fun z => nomatch z) (fun z => nomatch z)
    | some u0 =>
      obtain ⟨_, _, xs, rfl⟩ := only b u0 q
      have before := (hok b _ q).1
      have after := (hok2 b _ (un.frzs b _ _ q)).1
      rw [e] at before
      cases before
      exact after
/-- the law's promise, where the claim's caller asks it -/
theorem law_top {P : Program} {w : World} {K : PySem.W.Frag} {mg mb : Str → Option Value} {f a : Addr} {fd : FuncData} {x : Str} {sp : Sp} {s : Shared} {vs : List Value} {ns : List Int}
    (inK : K.In s.heap) (globals : s.heap.Ns mainGlobals mg) (built : s.heap.Ns builtinsNs mb) (asBoot : ∀ y : Str, y ≠ "__name__" → mb y = bootBuiltins y) (lim : s.heap.NoLimit) (quiet : s.gens = #[])
    (script : s.heap.get? a = some { cls := .type "list", data := .seq vs.toArray }) (inums : IntsAre vs ns) (short : ns.length ≤ sizeLine)
    (law : TopOk P w K mg f fd x sp) (binds : ∀ (s : Shared) (u : Value), BindsTo s fd ⟨[u], []⟩ [(x, u)]) (promise : ∀ H : Hp, SqL K H a (ns.map V.int) → sp [.ref a] H AllTrue NoErr) :
    codeAny (model P w) callerA (.call (.ref f) ⟨[.ref a], []⟩) (fun r s2 => r = .ok (.ret (.bool true)) ∧ OldK s.heap s2.heap ∧ s2.os = s.os ∧ AllBare s2.gens) s := by
  have items := vals_ints inums
  have long := inums.length
  by_cases own : ∃ o, K.lookup a = some o
  · obtain ⟨o, own⟩ := own
    have e := inK a o own
    rw [script] at e
    cases e
    refine top_run (H := fun _ => none) inK globals built asBoot lim quiet script (fun _ _ z => nomatch z) (fun _ _ z => nomatch z) law binds (promise _ (.inr ?_))
    exact ⟨_, vs.toArray, _, own, rfl, rfl, rfl, by rw [List.size_toArray, long]; exact short, by simpa using items⟩
  · have none_ : K.lookup a = none := by
      cases q : K.lookup a with
      | none => rfl
      | some o => exact absurd ⟨o, q⟩ own
    refine top_run (H := oneS a vs ns) inK globals built asBoot lim quiet script (fun b u z => ⟨(oneS_is z).1, none_, _, (oneS_is z).2⟩) (fun b u z => ?_) law binds (promise _ (.inl (.inr ⟨_, if_pos rfl⟩)))
    obtain ⟨rfl, rfl⟩ := oneS_is z
    exact ⟨script, by rw [List.length_map]; exact short, vs, _, items, script⟩
/-- the goal of a law's row, from a promise that the top alone asks for -/
theorem walk_top {l : PySem.W.OpenLaw} {n : Nat} {q : Program} {loose : List Str} {XP : (Str → Option Value) → Heap → Prop} {YP : World → Heap → Prop} {d : DefRec} {K : Params → PySem.W.Frag} {sp : World → Sp} {x : Str}
    (most : l.most = some n) (short : n ≤ sizeLine) (noDefaults : d.params.defaults = []) (inK : ∀ (w : World) (h : Heap), YP w h → (K w.params).In h)
    (law : ∀ (w : World) (mg : Str → Option Value) (f : Addr) (h : Heap), (K w.params).In h → h.Ns mainGlobals mg → mg d.name = some (.ref f) →
      ∃ fd : FuncData, (∀ (s : Shared) (u : Value), BindsTo s fd ⟨[u], []⟩ [(x, u)]) ∧ TopOk l.prog w (K w.params) mg f fd x (sp w))
    (promise : ∀ (w : World) (H : Hp) (a : Addr) (ns : List Int), ns.length ≤ n → SqL (K w.params) H a (ns.map V.int) → sp w [.ref a] H AllTrue NoErr) :
    PySem.W.WalkO q loose XP YP l.row.toRowW d [] (fun f vs => PySem.call f vs) := by
  refine Att.attach_call most noDefaults fun w s0 s1 mg mb f o pm cd doc a vs ns G Y there data codes at_ list inums few quiet => ?_
  obtain ⟨fd, binds, run⟩ := law w mg f _ (inK w _ Y) G.T.g at_
  exact law_top (inK w _ Y) G.T.g G.T.b G.T.builtins G.T.nolimit quiet list inums (Nat.le_trans few short) run binds fun H hS => promise w H a ns few hS
end L2

/-! plain tuples: slices of them, their sums, turned round -/
namespace L2
open PySem PySem.Spec PyProof.Rows HT
section
variable {prog : Program} {w : World} {A : Around} {E : Value → Shared → Prop} {s : Shared}
theorem rev_places (n : Nat) : Builtin.Slice.slicePlaces ((n : Int) - 1) (-1) (-1) = n := by
  unfold Builtin.Slice.slicePlaces
  have h1 : ¬ ((-1 : Int) > 0) := by decide
  simp only [h1, if_false, show (- -1 : Int) = 1 by decide, Int.ediv_one]
  split <;> omega
theorem rev_adjust (n : Nat) : Builtin.Slice.sliceAdjust none none (-1) (n : Int) = ((n : Int) - 1, -1) := by
  unfold Builtin.Slice.sliceAdjust
  simp
theorem sliceApplied_rev {sl : Addr} {vs : Value} {n : Nat} {Q : Int × Int × Nat → Shared → Prop} (hs : s.heap.IsSliceOf sl .none .none vs) (ps : IsPart vs (some (-1)))
    (h : Q (((n : Int) - 1), -1, n) s) : wpAny (model prog w) A (Builtin.Slice.sliceApplied (.ref sl) (pure (n : Int))) Q E s := by
  obtain ⟨os, hos, hcs, hds⟩ := id hs
  unfold Builtin.Slice.sliceApplied Builtin.Slice.sliceFields
  refine wpAny_bind (wpAny_bind (wpAny_field hos hds (x := .none) rfl (wpAny_bind (wpAny_field hos hds (x := .none) rfl (wpAny_bind (wpAny_field hos hds (x := vs) rfl (wpAny_pure ?_)))))))
  refine wpAny_bind (slicePart_ ps ?_)
  show wpAny _ _ (if ((-1 : Int) == 0) = true then _ else _) _ _ s
  rw [if_neg (by decide)]
  refine wpAny_bind (slicePart_none (wpAny_bind (slicePart_none (wpAny_bind (wpAny_pure ?_)))))
  show wpAny _ _ (match Builtin.Slice.sliceAdjust none none (-1) (n : Int) with | (lo, hi) => pure (lo, (-1 : Int), Builtin.Slice.slicePlaces lo hi (-1))) _ _ s
  rw [rev_adjust]
  show wpAny _ _ (pure (((n : Int) - 1), (-1 : Int), Builtin.Slice.slicePlaces ((n : Int) - 1) (-1) (-1))) _ _ s
  rw [rev_places]
  exact wpAny_pure h
theorem fm_congr {α β : Type} {f g : α → Option β} : ∀ {l : List α}, (∀ x ∈ l, f x = g x) → l.filterMap f = l.filterMap g
  | [], _ => rfl
  | x :: l, h => by
    rw [List.filterMap_cons, List.filterMap_cons, h x List.mem_cons_self, fm_congr (l := l) fun y hy => h y (List.mem_cons_of_mem _ hy)]
theorem same_fresh {H : Hp} {p : Addr} {u : HO} (h : H p = none) : Same H (upd H p u) := fun b o e => by
  rw [upd_ne (ne_of_none e h)]
  exact e
theorem rev_pick (xs : Array Value) : ((List.range xs.size).filterMap fun (m : Nat) => xs[(((xs.size : Nat) : Int) - 1 + (m : Int) * (-1)).toNat]?).toArray = xs.toList.reverse.toArray := by
  have e1 : ((List.range xs.size).filterMap fun (m : Nat) => xs[(((xs.size : Nat) : Int) - 1 + (m : Int) * (-1)).toNat]?) = (List.range xs.size).filterMap fun (m : Nat) => xs[xs.size - 1 - m]? := by
    refine fm_congr fun m hm => ?_
    have := List.mem_range.mp hm
    rw [show (((xs.size : Nat) : Int) - 1 + (m : Int) * (-1)).toNat = xs.size - 1 - m by omega]
  rw [e1]
  have e2 : ((List.range xs.size).filterMap fun (m : Nat) => xs[xs.size - 1 - m]?) = ((List.range xs.size).map fun k => xs.size - 1 - k).filterMap (xs[·]?) := by
    rw [List.filterMap_map]
    rfl
  rw [e2, PySem.W.krv_range, List.filterMap_reverse, PySem.W.krv_all]
/-- t[::-1] makes a new tuple: the slice is never the whole, for its step is -1 -/
theorem getItem_tuple_rev {t sl : Addr} {its : Array Value} {step : Value} {Q : Value → Shared → Prop} (isT : IsTup s.heap t its) (isSl : s.heap.IsSliceOf sl .none .none step) (minus : IsPart step (some (-1)))
    (q : Q (.ref s.heap.objs.size) { s with heap := s.heap.push { cls := .type "tuple", data := .seq its.toList.reverse.toArray } }) (small : its.size ≤ sizeLine) : wpAny (model prog w) A (getItem (.ref t) (.ref sl)) Q E s := by
  have fits : sizeOk (.seq its.toList.reverse.toArray) := by
    show its.toList.reverse.toArray.size ≤ _
    simpa using small
  have tySl : s.TypeIs (.ref sl) "slice" := let ⟨o, g, c, _⟩ := isSl; ⟨o, g, c⟩
  have notWhole : (((((its.size : Nat) : Int) - 1) == 0 && (-1 : Int) == 1) && its.size == its.size) = false := by simp
  unfold getItem
  try with_reducible refine wpAny_holding ?_
  try refine wpAny_bind (wpAny_pure ?_)
  refine wpAny_bind (wpAny_sequenceKey isT.typeIs (by decide) (wpAny_bind (wpAny_callSpecial?_slot (name := Str.ofString "__getitem__") isT.typeIs PyProof.Rows.slot_tuple_getitem (wpAny_call_entry PyProof.Rows.slot_tuple_getitem isT.typeIs entry_tuple_getitem ?_ (args_tuple_getitem _ _)))))
  show wpAny _ _ (Builtin.Tuple.tupleItemsOf (.ref t) >>= _) _ _ s
  refine wpAny_bind (tupleItemsOf_ isT (wpAny_bind (wpAny_typeOf tySl ?_)))
  rw [if_pos (by decide)]
  refine wpAny_bind (sliceApplied_rev isSl minus ?_)
  show wpAny _ _ (if ((((its.size : Nat) : Int) - 1) == 0 && (-1 : Int) == 1 && its.size == its.size) = true then _ else _) _ _ s
  rw [notWhole, if_neg (by decide), rev_pick]
  first
    | exact wpAny_bind (m := Builtin.Tuple.tupleExact _) (wpAny_newObj_type (wpAny_pure ⟨_, rfl, wpAny_pure q⟩) fits)
    | exact wpAny_bind (wpAny_bind (m := Builtin.Tuple.tupleExact _) (wpAny_newObj_type (wpAny_pure (wpAny_pure ⟨_, rfl, wpAny_pure q⟩)) fits))
    | exact wpAny_bind (wpAny_bind (m := Builtin.Tuple.tupleExact _) (wpAny_newObj_type (wpAny_pure ⟨_, rfl, wpAny_pure q⟩) fits))
end
section
variable {X : Cx}
/-- t[::-1], a plain tuple -/
def tRevP (K : PySem.W.Frag) (te : TE) : TE := fun σ H Q => te σ H fun x H1 => ∃ a xs, x = .ref a ∧ SqT K H1 a xs ∧ ∀ p H', Same H1 H' → Ptp H' p xs.reverse → Q (.ref p) H'
theorem pe_revP {e : Expr} {te : TE} {k : Nat} {p1 p2 p3 pos : Pos} (he : PE X e te) : PE X (.Subscript e (.Slice none none (some (.UnaryOp .USub (.Constant (.int 1) k p1) p2)) p3) pos) (tRevP X.K te) := by
  refine ⟨fun pins s σ H Q I h => ?_⟩
  refine Subscript_ (thn (he.run pins s σ H _ I h) fun v s1 ⟨x, H1, I1, r1, q1⟩ => ?_)
  obtain ⟨a, xs, ex, hx, q⟩ := q1
  subst ex
  cases r1
  have hst : PO X (some (.UnaryOp .USub (.Constant (.int 1) k p1) p2)) (tPart (tUn (rU fun i => .int (-i)) (tC (.int 1)))) := po_some (pe_un un_neg pe_int)
  refine wpAny_Slice (thn (po_none.run pins s1 σ H1 (fun o H2 => o = none ∧ H2 = H1) I1 ⟨rfl, rfl⟩) fun vl s2 ⟨l, H2, I2, pl, el, e2⟩ => ?_)
  subst el e2
  refine thn (po_none.run pins s2 σ H2 (fun o H3 => o = none ∧ H3 = H2) I2 ⟨rfl, rfl⟩) fun vu s3 ⟨u, H3, I3, pu, eu, e3⟩ => ?_
  subst eu e3
  refine thn (hst.run pins s3 σ H3 (fun o H4 => o = some (-1) ∧ H4 = H3) I3 ⟨1, rfl, -1, rfl, rfl, rfl⟩) fun vs s4 ⟨o, H4, I4, ps, eo, e4⟩ => ?_
  subst eo e4
  cases pl
  cases pu
  have I5 : Inv X pins σ H4 { s4 with heap := s4.heap.push { cls := .type "slice", data := .fields #[.none, .none, vs] } } := I4.kept (t' := s4.toks) fun b ob q => Heap.get?_push_of_some _ q
  obtain ⟨its, r, ht, hz⟩ := I5.tuple hx
  have hlen := r.length
  show wpAny (model X.prog X.w) X.A (subscriptTail e (.Slice none none (some (.UnaryOp .USub (.Constant (.int 1) k p1) p2)) p3) (.ref a) (.ref s4.heap.objs.size)) (EP X pins σ Q) X.xe { s4 with heap := s4.heap.push { cls := .type "slice", data := .fields #[.none, .none, vs] } }
  refine tail_any (ops := [.ref a, .ref s4.heap.objs.size]) ht.typeIs (PyProof.Rows.slot_tuple_getitem.lookup) ?_ (by with_unfolding_all rfl)
  refine getItem_tuple_rev ht (Heap.IsSliceOf.new _ .none .none vs) ps ?_ (by rw [List.size_toArray]; omega)
  have hf := I5.hok.fresh (Nat.le_refl _)
  refine ⟨.ref _, _, I5.laid (t' := s4.toks) (o := .frz { cls := .type "tuple", data := .seq its.reverse.toArray } (.tup xs.reverse)) (fun b ob q => Heap.get?_push_of_some _ q) (Nat.le_refl _) ?_, rfl, q _ _ (same_fresh hf) ⟨_, upd_same, rfl⟩⟩
  exact ⟨Heap.get?_push_size _ rfl, by rw [List.length_reverse]; exact hz, _, r.reverse, ⟨_, Heap.get?_push_size _ rfl, rfl, _, rfl⟩⟩
/-- t[lo:hi], t a plain tuple: a plain tuple -/
def rSlP (K : PySem.W.Frag) : V → Option Int → Option Int → Hp → VK → Prop := fun x lo hi H Q => ∃ a xs, x = .ref a ∧ Ptp H a xs ∧ ∀ p H', Same H H' → Ptp H' p (cutV xs lo hi) → Q (.ref p) H'
theorem cutV_whole {xs : List V} {lo hi : Option Int} (h : HT.sIx xs.length 0 lo = 0 ∧ HT.sIx xs.length xs.length hi = xs.length) : cutV xs lo hi = xs := by
  unfold cutV
  rw [h.1, h.2, List.drop_zero, Nat.sub_zero, List.take_length]
theorem sl_tupP : SlR X (rSlP X.K) := by
  intro pins s σ H x v vl vu lo hi sl Q I rx hs pl pu h
  obtain ⟨a, xs, rfl, hx, q⟩ := h
  by_cases hw : HT.sIx xs.length 0 lo = 0 ∧ HT.sIx xs.length xs.length hi = xs.length
  · exact sl_tupA pins s σ H _ v vl vu lo hi sl Q I rx hs pl pu ⟨a, xs, rfl, hx.seq, fun _ => q a H (Same.refl H) (by rw [cutV_whole hw]; exact hx), fun n => absurd hw n⟩
  · cases rx
    obtain ⟨its, r, ht, hz⟩ := I.tuple hx.seq
    have hlen : its.toArray.size = xs.length := by rw [List.size_toArray]; exact r.length.symm
    refine ⟨"tuple", _, PyProof.Rows.slot_tuple_getitem.lookup, ht.typeIs, ?_⟩
    refine HT.getItem_tuple_cut ht hs pl pu (by rw [hlen]; exact hw) ?_ (by rw [hlen]; exact hz)
    rw [hlen]
    have hf := I.hok.fresh (Nat.le_refl _)
    refine ⟨.ref s.heap.objs.size, _, I.laid (t' := s.toks) (o := .frz { cls := .type "tuple", data := .seq ((its.drop (HT.sIx xs.length 0 lo)).take (HT.sIx xs.length xs.length hi - HT.sIx xs.length 0 lo)).toArray } (.tup (cutV xs lo hi))) (fun b ob q => Heap.get?_push_of_some _ q) (Nat.le_refl _) ?_, rfl, q _ _ (same_fresh hf) ⟨_, upd_same, rfl⟩⟩
    exact ⟨Heap.get?_push_size _ rfl, Nat.le_trans (cutV_length xs lo hi) hz, _, (r.drop (HT.sIx xs.length 0 lo)).take (HT.sIx xs.length xs.length hi - HT.sIx xs.length 0 lo), ⟨_, Heap.get?_push_size _ rfl, rfl, _, rfl⟩⟩
/-- t + u, plain tuples: a plain tuple -/
def rCatP (K : PySem.W.Frag) : R2 := fun x y H Q => ∃ a b xs ys, x = .ref a ∧ y = .ref b ∧ Ptp H a xs ∧ Ptp H b ys ∧ xs.length + ys.length ≤ sizeLine ∧ ∀ p H', Same H H' → Ptp H' p (xs ++ ys) → Q (.ref p) H'
theorem op_catP : OpR X (binaryOp .Add) (rCatP X.K) := by
  intro pins s σ H x y v u Q I rx ry h
  obtain ⟨a, b, xs, ys, rfl, rfl, ha, hb, hz, q⟩ := h
  by_cases hx : xs = []
  · subst hx
    exact op_catA pins s σ H _ _ v u Q I rx ry ⟨a, b, [], ys, rfl, rfl, ha.seq, hb.seq, hz, fun _ => q b H (Same.refl H) hb, fun n => absurd rfl n, fun n => absurd rfl n⟩
  · cases rx
    cases ry
    obtain ⟨its, r1, p1, _⟩ := I.tuple ha.seq
    obtain ⟨its2, r2, p2, _⟩ := I.tuple hb.seq
    refine HT.cat_tup p1 p2 (fun z => hx (r1.nil_iff.mp z)) (fun z => ⟨.ref a, H, I, rfl, q a H (Same.refl H) (by rw [r2.nil_iff.mp z, List.append_nil]; exact ha)⟩) (fun z => ?_) (by rw [← r1.length, ← r2.length]; exact hz)
    have hf := I.hok.fresh (Nat.le_refl _)
    refine ⟨.ref s.heap.objs.size, _, I.laid (t' := s.toks) (o := .frz { cls := .type "tuple", data := .seq (its ++ its2).toArray } (.tup (xs ++ ys))) (fun b ob q => Heap.get?_push_of_some _ q) (Nat.le_refl _) ?_, rfl, q _ _ (same_fresh hf) ⟨_, upd_same, rfl⟩⟩
    exact ⟨Heap.get?_push_size _ rfl, by rw [List.length_append]; exact hz, _, r1.append r2, ⟨_, Heap.get?_push_size _ rfl, rfl, _, rfl⟩⟩
end
end L2

namespace L2
open PySem PySem.Spec PyProof.Rows SrtO SrtZ
section
variable {X : Cx}
/-- min(d.values()), values ints -/
def rMinV : List V → Hp → VK → Prop := fun vs H Q => ∃ (p d : Addr) (ks : List (Str × Int)), vs = [V.ref p] ∧ H p = some (valuesO p d) ∧ H d = some (.dK (ks.map entZ)) ∧ 0 < ks.length ∧
  ∀ m, m ∈ ks.map (·.2) → (∀ y ∈ ks.map (·.2), m ≤ y) → Q (.int m) H
theorem cr_minV (hc : X.calm = true) : CallR X (.builtin "min") rMinV := by
  intro pins s σ H vs us Q I r h
  obtain ⟨p, d, ks, rfl, hp, ha, hne, q⟩ := h
  obtain rfl := Vals.ref1 r
  have view : s.heap.IsValuesView p d := (show ObjOk X.prog X.w H s.heap p (valuesO p d) from I.hok p _ hp).1
  obtain ⟨z, hd, xs', rel, dd⟩ := dk_of I.hok ha
  obtain ⟨ep, hat⟩ := dd.dictAt
  have l1 : ks.length = xs'.length := by
    have := Paired.length rel
    rwa [List.length_map] at this
  have K := PySem.W.kdl_values (prog := X.prog) (w := X.w) (knd := mixKind X.prog X.w) (kvs := xs') (ep := ep) (r := p) (d := d)
  have hok : s.heap.IsValuesView p d ∧ s.heap.DictAt (mixKind X.prog X.w) d xs' ep := ⟨view, hat⟩
  have hval : ∀ (i : Nat) (v : Value), (∃ k, xs'[i]? = some (k, v)) → ∃ t : Tok, v = Value.int ((ks.map (·.2)).getD i 0) t := fun i v ⟨k, e⟩ => by
    obtain ⟨e', t, e1, e2⟩ := ent_paired rel e
    refine ⟨t, ?_⟩
    have : (ks.map (·.2)).getD i 0 = e'.2 := by simp [List.getD, e1]
    rw [this]
    exact (Prod.mk.inj e2).2
  refine PySem.call_min_walkS ?_
  obtain ⟨oI, St, hit, W, st⟩ := K.iter X.A.in1 s (I.ok.hd hc) hok
  refine hit _ _ ⟨s.heap.objs.size, _, _, _, xs'.length, _, _, fun i j => decide ((ks.map (·.2)).getD i 0 < (ks.map (·.2)).getD j 0), rfl, W.toS, st, fun b hb => ?_, by omega, PySem.CmpOf.ints_lt _ hval, fun v s' hP hm => ?_⟩
  · show b < (s.heap.push oI).objs.size
    rw [size_push']
    rcases List.mem_cons.mp hb with e | hb
    · rw [e]; exact Nat.lt_succ_self _
    · rw [List.mem_singleton.mp hb]; exact Nat.lt_succ_of_lt (K.there _ hok).2
  · have hk : ∀ b o, s.heap.get? b = some o → s'.heap.get? b = some o := fun b o e =>
      hm.heap b o (fun hI => absurd (Heap.lt_size e) (by rw [List.mem_singleton.mp hI]; exact Nat.lt_irrefl _)) (Heap.get?_push_of_some _ e)
    obtain ⟨t, rfl⟩ := hval _ v hP
    obtain ⟨h1, h2⟩ := argBest_lt (fun i => (ks.map (·.2)).getD i 0) (xs'.length - 1)
    have hI : Inv X pins σ H s' := by
      rw [Moved.eq_with hm]
      exact I.kept (t' := s'.toks) hk
    refine ⟨.int _, H, hI, ⟨t, rfl⟩, q _ ?_ fun a ha => ?_⟩
    · exact PySem.getD_mem (by rw [List.length_map]; omega)
    · obtain ⟨j, hj, rfl⟩ := mem_getD ha
      rw [List.length_map] at hj
      exact h2 j (by omega)
end
end L2

namespace L2
open PySem PySem.Spec PyProof.Rows SrtO SrtZ
/-- a set of texts, in such a table as a walk wants -/
structure StrS (P : Program) (w : World) (h : Heap) (a : Addr) (S : Str → Bool) (n : Nat) (es : Array (Int × Value)) (ep : Nat) (t : SetTable) : Prop where
  ob : ∃ o, h.get? a = some o ∧ o.ExactSet ∧ o.data = .set es ep t
  el : ElemsOf (strKind P w) es.toList
  is_ : ∀ k : Str, S k = true ↔ ∃ e, e ∈ es.toList ∧ (strKind P w).is k e.2 = true
  lt : es.size < scanBound
  fits : t.fits es.size = true
  sz : es.size = n
  ris : Ris t.place.toList
  led : w.params.followText "set-order" = true ∨ t.led = true
def StrSet (P : Program) (w : World) (h : Heap) (a : Addr) (S : Str → Bool) (n : Nat) : Prop := ∃ es ep t, StrS P w h a S n es ep t
section
variable {P : Program} {w : World} {A : Around} {E : Value → Shared → Prop} {s : Shared} {a : Addr}
theorem strS_store {h : Heap} {o : Obj} {es0 : Array (Int × Value)} {ep : Nat} {t0 : SetTable} (h1 : h.get? a = some o) (h2 : o.ExactSet) (h3 : o.data = .set es0 ep t0) {es : Array (Int × Value)} {t : SetTable} {S : Str → Bool}
    (el : ElemsOf (strKind P w) es.toList) (is_ : ∀ k : Str, S k = true ↔ ∃ e, e ∈ es.toList ∧ (strKind P w).is k e.2 = true) (lt : es.size < scanBound) (fits : t.fits es.size = true) (ris : Ris t.place.toList) (led : w.params.followText "set-order" = true ∨ t.led = true) :
    StrS P w (h.update a (Obj.putSet es t)) a S es.size es (ep + 1) t :=
  ⟨⟨_, (SetOf_store (knd := strKind P w) h1 h2 h3 el is_ lt fits).1, h2, rfl⟩, el, is_, lt, fits, rfl, ris, led⟩
theorem strS_tail {g : Bool → Sem Unit} (hg : ∀ (b : Bool) (s₁ : Shared) (Q' : Unit → Shared → Prop), Q' () s₁ → wpAny (model P w) A (g b) Q' E s₁) {o : Obj} {es : Array (Int × Value)} {ep : Nat} {t : SetTable} (h1 : s.heap.get? a = some o) (h2 : o.ExactSet) (h3 : o.data = .set es ep t)
    {es1 : Array (Int × Value)} {t2 : SetTable} {S' : Str → Bool} (el : ElemsOf (strKind P w) es1.toList) (is_ : ∀ k : Str, S' k = true ↔ ∃ e, e ∈ es1.toList ∧ (strKind P w).is k e.2 = true) (lt : es1.size < scanBound) (fits : t2.fits es1.size = true) (ris : Ris t2.place.toList)
    (led : w.params.followText "set-order" = true ∨ t2.led = true) {wasDummy : Bool} {R : Option Bool → Shared → Prop}
    (q : ∀ h' : Heap, Heap.SameBut a s.heap h' → StrSet P w h' a S' es1.size → R (some true) { s with heap := h' }) :
    wpAny (model P w) A (do
      storeSet a es1 t2
      if (!wasDummy && t2.tooFull) = true then do
          g (relayAll t2 es1 (SetTable.grown es1.size)).2.2
          storeSet a (relayAll t2 es1 (SetTable.grown es1.size)).1 (relayAll t2 es1 (SetTable.grown es1.size)).2.1
          pure (some true)
        else pure (some true)) R E s := by
  have st := strS_store (P := P) (w := w) h1 h2 h3 el is_ lt fits ris led
  refine wpAny_bind (wpAny_storeSet_of h1 h3 ?_ (fits_of_scanBound lt))
  obtain ⟨o1, k1, k2, k3⟩ := st.ob
  split
  · refine wpAny_bind (hg _ _ _ ?_)
    have pm := relayAll_perm t2 es1 (SetTable.grown es1.size)
    have sz : (relayAll t2 es1 (SetTable.grown es1.size)).1.size = es1.size := by
      have := pm.length_eq
      simpa using this
    refine wpAny_bind (wpAny_storeSet_of k1 k3 ?_ (by rw [sz]; exact fits_of_scanBound lt))
    refine wpAny_pure ?_
    have st2 := strS_store (P := P) (w := w) (S := S') k1 k2 k3 (el.perm pm) (fun k => (is_ k).trans ⟨fun ⟨e, he, hk⟩ => ⟨e, pm.mem_iff.mpr he, hk⟩, fun ⟨e, he, hk⟩ => ⟨e, pm.mem_iff.mp he, hk⟩⟩) (by rw [sz]; exact lt) (relayAll_fits _ _ _) (relayAll_ris _ _ _) (by rw [relayAll_led]; exact led)
    rw [sz] at st2
    exact q _ (Heap.SameBut.trans (Heap.SameBut.update _ _ _) (Heap.SameBut.update _ _ _)) ⟨_, _, _, st2⟩
  · exact wpAny_pure (q _ (Heap.SameBut.update _ _ _) ⟨_, _, _, st⟩)
theorem gave_of {g : Bool → Sem Unit} (h1 : g true = rule "set.scan.the-table-gave-way") (h2 : g false = pure ()) : ∀ (b : Bool) (s₁ : Shared) (Q' : Unit → Shared → Prop), Q' () s₁ → wpAny (model P w) A (g b) Q' E s₁ := fun b s₁ Q' h => by
  cases b
  · rw [h2]
    exact wpAny_pure h
  · rw [h1]
    exact wpAny_rule h
theorem strS_add {S : Str → Bool} {n : Nat} {z : Str} {tk : Tok} {Q : Bool → Shared → Prop} (h : StrSet P w s.heap a S n) (hn : n + 1 < scanBound)
    (q : ∀ (b : Bool) (h' : Heap), Heap.SameBut a s.heap h' → StrSet P w h' a (fun k => S k || decide (k = z)) (if S z = true then n else n + 1) → Q b { s with heap := h' }) :
    wpAny (model P w) A (setAddHashed a (.str z tk) ((strKind P w).hash z)) Q E s := by
  obtain ⟨es, ep, t, ⟨⟨o, h1, h2, h3⟩, el, is_, lt, fits, sz, ris, led⟩⟩ := h
  subst sz
  unfold setAddHashed
  refine wpAny_holding ?_
  rw [setAddHashedIn.eq_def]
  dsimp only
  refine wpAny_bind (wpAny_setState_of h1 h3 fits ?_)
  dsimp only
  have hb : byScan (.str z tk) es = true := by
    unfold byScan
    rw [decide_eq_true lt]
    simp only [Bool.and_eq_true]
    refine ⟨⟨rfl, trivial⟩, ?_⟩
    rw [Array.all_eq_true']
    intro e he
    exact (el e (by simpa using he)).2
  rw [if_pos hb]
  refine wpAny_bind ?_
  unfold setAddByScan
  refine wpAny_bind (wpAny_rule ?_)
  have hk := strKind_is P w z tk
  refine wpAny_bind (wpAny_setScan_of hk h1 h3 fits el ?_)
  cases hf : List.findIdx? (fun e => (strKind P w).is z e.2) es.toList with
  | some j =>
    dsimp only
    refine wpAny_pure ?_
    dsimp only
    refine wpAny_pure ?_
    have hS : S z = true := by
      obtain ⟨hlt, hj, _⟩ := List.findIdx?_eq_some_iff_getElem.mp hf
      exact (is_ z).mpr ⟨_, List.getElem_mem hlt, hj⟩
    refine q _ _ (Heap.SameBut.refl _ _) ?_
    rw [if_pos hS]
    refine ⟨es, ep, t, ⟨⟨o, h1, h2, h3⟩, el, fun k => ?_, lt, fits, rfl, ris, led⟩⟩
    rw [← is_ k]
    by_cases hkz : k = z
    · subst hkz
      rw [hS]
      rfl
    · rw [decide_eq_false hkz, Bool.or_false]
  | none =>
    dsimp only
    have hS : S z = false := by
      cases e : S z with
      | false => rfl
      | true =>
        obtain ⟨e, he, hke⟩ := (is_ z).mp e
        have := List.findIdx?_eq_none_iff.mp hf e he
        rw [hke] at this
        cases this
    have pm := layNew_perm t es ((strKind P w).hash z) (.str z tk)
    have fi := layNew_fits t es ((strKind P w).hash z) (.str z tk)
    have ri := layNew_ris t es ((strKind P w).hash z) (.str z tk) ris
    have le := layNew_led t es ((strKind P w).hash z) (.str z tk)
    generalize layNew t es ((strKind P w).hash z) (.str z tk) = y at pm fi ri le ⊢
    obtain ⟨es1, t1, wasDummy, gave⟩ := y
    dsimp only at pm fi ri le ⊢
    have sz1 : es1.size = es.size + 1 := by
      have := pm.length_eq
      simpa using this
    have el1 : ElemsOf (strKind P w) es1.toList := fun e he => by
      have := pm.mem_iff.mp he
      rw [Array.toList_push, List.mem_append] at this
      rcases this with h | h
      · exact el e h
      · rw [List.mem_singleton.mp h]
        exact ⟨⟨z, hk, rfl⟩, rfl⟩
    have is1 : ∀ k : Str, (S k || decide (k = z)) = true ↔ ∃ e, e ∈ es1.toList ∧ (strKind P w).is k e.2 = true := fun k => by
      rw [Bool.or_eq_true, is_ k, decide_eq_true_eq]
      constructor
      · rintro (⟨e, he, h⟩ | rfl)
        · exact ⟨e, pm.mem_iff.mpr (by rw [Array.toList_push, List.mem_append]; exact .inl he), h⟩
        · exact ⟨_, pm.mem_iff.mpr (by rw [Array.toList_push, List.mem_append]; exact .inr (List.mem_singleton.mpr rfl)), hk⟩
      · rintro ⟨e, he, h⟩
        have := pm.mem_iff.mp he
        rw [Array.toList_push, List.mem_append] at this
        rcases this with h' | h'
        · exact .inl ⟨e, h', h⟩
        · rw [List.mem_singleton.mp h'] at h
          exact .inr ((strKind P w).inj _ _ _ h hk)
    have led1 : w.params.followText "set-order" = true ∨ t1.led = true := by rw [le]; exact led
    have fin : ∀ h' : Heap, Heap.SameBut a s.heap h' → StrSet P w h' a (fun k => S k || decide (k = z)) es1.size → Q true { s with heap := h' } := fun h' sb st => by
      refine q true h' sb ?_
      rw [hS, if_neg (by decide), ← sz1]
      exact st
    refine wpAny_bind (gave_of (by rfl) (by rfl) gave _ _ ?_)
    split
    · refine wpAny_bind ?_
      show wpAny _ _ (pure false) _ _ _
      refine wpAny_pure ?_
      rw [if_neg (by decide)]
      refine strS_tail (t2 := { t1 with plain := false }) ?hg1 h1 h2 h3 el1 is1 (by omega) fi ri led1 ?q1
      case q1 => exact fun h' sb st => wpAny_pure (fin h' sb st)
      case hg1 => exact gave_of (by rfl) (by rfl)
    · refine wpAny_bind (wpAny_pure ?_)
      rw [if_pos rfl]
      refine strS_tail ?hg2 h1 h2 h3 el1 is1 (by omega) fi ri led1 ?q2
      case q2 => exact fun h' sb st => wpAny_pure (fin h' sb st)
      case hg2 => exact gave_of (by rfl) (by rfl)
theorem StrSet.keep {S : Str → Bool} {n : Nat} {h h' : Heap} (st : StrSet P w h a S n) (k : ∀ o, h.get? a = some o → h'.get? a = some o) : StrSet P w h' a S n := by
  obtain ⟨es, ep, t, ⟨⟨o, h1, h2, h3⟩, el, is_, lt, fits, sz, ris, led⟩⟩ := st
  exact ⟨es, ep, t, ⟨⟨o, k o h1, h2, h3⟩, el, is_, lt, fits, sz, ris, led⟩⟩
theorem StrSet.congr {S S' : Str → Bool} {n : Nat} {h : Heap} (st : StrSet P w h a S n) (e : ∀ k, S k = S' k) : StrSet P w h a S' n := by
  rw [← show S = S' from funext e]
  exact st
def hasZ (xs : List Str) (i : Nat) : Str → Bool := fun k => (xs.take i).any fun x => decide (x = k)
theorem hasZ_snoc {xs : List Str} {i : Nat} {x : Str} (h : xs[i]? = some x) (k : Str) : hasZ xs (i + 1) k = (hasZ xs i k || decide (k = x)) := by
  unfold hasZ
  rw [List.take_add_one, h, List.any_append]
  congr 1
  show (decide (x = k) || false) = _
  rw [Bool.or_false]
  by_cases e : x = k
  · rw [decide_eq_true e, decide_eq_true e.symm]
  · rw [decide_eq_false e, decide_eq_false (Ne.symm e)]
/-- how many unlike ones stand before i -/
def dcz (xs : List Str) : Nat → Nat
  | 0 => 0
  | i + 1 => dcz xs i + (match xs[i]? with | some x => (if hasZ xs i x = true then 0 else 1) | none => 0)
theorem dcz_snoc {xs : List Str} {i : Nat} {x : Str} (h : xs[i]? = some x) : dcz xs (i + 1) = dcz xs i + (if hasZ xs i x = true then 0 else 1) := by
  show dcz xs i + _ = _
  rw [h]
theorem dcz_le (xs : List Str) : ∀ i, dcz xs i ≤ i
  | 0 => Nat.le_refl _
  | i + 1 => by
    have := dcz_le xs i
    show dcz xs i + _ ≤ i + 1
    split
    · split <;> omega
    · omega
theorem strS_loop {R : Result → Shared → Prop} {I : Addr} {fp wr : List Addr} {G : Array GenState → Array GenState → Prop} {n : Nat} {Pv : Nat → Value → Prop} {St : Nat → Shared → Prop} (wk : WalksS P w A.in1 I fp wr G n Pv St) (S : Addr) (hS : S ∉ fp) (xs : List Str) (hl : xs.length = n) (hn : n + 1 < scanBound)
    (hv : ∀ i v, Pv i v → ∃ x t, xs[i]? = some x ∧ v = Value.str x t) : ∀ (k i : Nat) (s : Shared), n - i = k → i ≤ n → St i s → (∃ m, m ≤ dcz xs i ∧ StrSet P w s.heap S (hasZ xs i) m) →
    (∀ s' : Shared, Moved (S :: wr) G s s' → (∃ m, m ≤ dcz xs n ∧ StrSet P w s'.heap S (hasZ xs n) m) → R (.ok (.ret .none)) s') →
    codeAny (model P w) A (.builtin "set.update.loop" { pos := [.ref S, .ref I] }) R s := by
  intro k
  induction k with
  | zero =>
    intro i s hk hi st ⟨m, hm, ss⟩ q
    have : i = n := by omega
    subst this
    refine codeAny_builtin F.entry_set_update_loop ?_
    rw [Around.under_plainId F.plain_set_update_loop]
    unfold Builtin.«set.update.loop»
    dsimp only
    refine wpAny_bind (wk.done s _ _ st fun s' mv => ?_)
    dsimp only
    refine wpAny_pure ?_
    dsimp only
    refine q s' (mv.mono fun b hb => List.mem_cons_of_mem _ hb) ⟨m, hm, ss.keep fun o e => mv.heap _ _ (fun z => hS (wk.sub _ z)) e⟩
  | succ k ih =>
    intro i s hk hi st ⟨m, hm, ss⟩ q
    refine codeAny_builtin F.entry_set_update_loop ?_
    rw [Around.under_plainId F.plain_set_update_loop]
    unfold Builtin.«set.update.loop»
    dsimp only
    refine wpAny_bind (wk.item i s _ _ (by omega) st fun v s' hp st' mv => ?_)
    obtain ⟨x, t, hx, rfl⟩ := hv i v hp
    dsimp only
    refine wpAny_bind (wpAny_holding ?_)
    unfold setAdd
    refine wpAny_holding (wpAny_bind ((strKind P w).pyHash (strKind_is P w x t) ?_))
    have ss' : StrSet P w s'.heap S (hasZ xs i) m := ss.keep fun o e => mv.heap _ _ (fun z => hS (wk.sub _ z)) e
    refine strS_add (s := { s' with toks := s'.toks + 1 }) ss' (by have := dcz_le xs i; omega) fun b h' sb ss2 => ?_
    refine wpAny_pure ?_
    refine ⟨plainId_quiet F.plain_set_update_loop _, ?_⟩
    have fr := wk.frame (i + 1) s' h' (s'.toks + 1) st' (Nat.le_succ _) fun b hb o e => by
      rw [sb.2 b (fun z => hS (z ▸ hb))]
      exact e
    refine ih (i + 1) _ (by omega) (by omega) fr ⟨_, ?_, ss2.congr fun k => (hasZ_snoc hx k).symm⟩ fun s2 mv2 ss3 => ?_
    · rw [dcz_snoc hx]
      split <;> omega
    · refine q s2 (Moved.trans (wk.gtrans) ?_ mv2) ss3
      refine (mv.mono fun b hb => List.mem_cons_of_mem _ hb).then_heap (Nat.le_succ _) fun b o hb e => ?_
      rw [sb.2 b (fun z => hb (z ▸ List.mem_cons_self))]
      exact e
end
end L2

namespace L2
open PySem PySem.Spec PyProof.Rows SrtO SrtZ
section
variable {P : Program} {w : World} {A : Around} {E : Value → Shared → Prop} {s : Shared} {a : Addr}
theorem call_set_init {self x : Value} {Q : Value → Shared → Prop} (hty : s.TypeIs self "set") (h : wpAny (model P w) A.in1 (Builtin.«set.__init__» { pos := [self, x] }) (fun fin s' => ∃ v, fin = Fin.done (.ret v) ∧ Q v s') E s) : wpAny (model P w) A (call (.builtin "set.__init__") [self, x]) Q E s := by
  refine wpAny_call (codeAny_call_builtin F.called_set.init.plain F.entry_set_init (check_set_init_1 hty (wpAny_mono h ?_ ?_)))
  · rintro fin s' ⟨v, rfl, hq⟩
    exact hq
  · exact fun _ _ h => h
theorem call_set_strs {l : Addr} {items : Array Value} {xs : List Str} {Q : Value → Shared → Prop} (hA : A.handled = none) (hl : s.heap.IsList l items) (hx : StrsAre items.toList xs) (hn : xs.length + 1 < scanBound)
    (q : ∀ (h' : Heap) (tk m : Nat), m ≤ dcz xs xs.length → StrSet P w h' s.heap.objs.size (hasZ xs xs.length) m → (∀ b o, s.heap.get? b = some o → h'.get? b = some o) → Q (.ref s.heap.objs.size) { s with heap := h', toks := tk }) :
    wpAny (model P w) A (call (.type "set") [.ref l]) Q E s := by
  have T := F.called_set
  obtain ⟨c, tl, hm⟩ := T.mro
  refine wpAny_call (codeAny_of_tree (wpAny_pure ⟨Code.quiet_builtin _ (by decide +kernel), ?_⟩))
  refine codeAny_builtin F.entry_type_call ?_
  rw [Around.under_plain (weight_type_call_type "set" [.ref l] []) rfl]
  unfold Builtin.«type.__call__»
  dsimp only
  rw [if_neg (by rw [T.notType]; decide), if_neg (by rw [show _ = false from T.canCreate]; decide)]
  rw [F.typeCall_set_1]
  refine wpAny_bind (wpAny_pure ?_)
  refine wpAny_bind (wpAny_of_eq hm ?_)
  rw [if_neg (by simp)]
  refine wpAny_bind (wpAny_of_eq T.made ?_)
  dsimp only
  refine wpAny_bind (wpAny_pure ?_)
  refine wpAny_bind (wpAny_holding (wpAny_call ?_))
  refine codeAny_mono (code_set_led1 (E := E) (Q₁ := fun v s' => v = .ref s.heap.objs.size ∧ s' = { s with heap := s.heap.push { cls := .type "set", data := .set #[] 0 (SetTable.fresh 0 0 !w.params.followText "set-order") } }) (.ref l) ⟨rfl, rfl⟩) fun r s' h => ?_
  match r, h with
  | .ok (.ret v), h =>
    obtain ⟨rfl, rfl⟩ := h
    dsimp only
    generalize hob : ({ cls := .type "set", data := .set #[] 0 (SetTable.fresh 0 0 !w.params.followText "set-order") } : Obj) = ob
    have hnew : (s.heap.push ob).get? s.heap.objs.size = some ob := Heap.get?_push_size _ (by rw [← hob]; rfl)
    have hty : ({ s with heap := s.heap.push ob } : Shared).TypeIs (.ref s.heap.objs.size) "set" := ⟨ob, hnew, by rw [← hob]⟩
    refine wpAny_bind (wpAny_isInstance hty T.sub ?_)
    rw [if_neg (by decide)]
    refine wpAny_bind (wpAny_holding ?_)
    unfold callSpecial?
    refine wpAny_bind (wpAny_specialOf hty T.init.lookup ?_)
    dsimp only
    refine wpAny_holding (wpAny_bind (wpAny_of_eq (T.init.bind _) ?_))
    dsimp only
    refine wpAny_bind (call_set_init hty ?_)
    unfold Builtin.«set.__init__»
    dsimp only
    refine wpAny_bind ?_
    unfold noKeywords
    rw [if_pos (by rfl)]
    refine wpAny_pure ?_
    unfold typeNameOfCut
    refine wpAny_bind (wpAny_bind ?_)
    unfold shownTypeOf
    refine wpAny_bind (wpAny_typeOf hty ?_)
    rw [if_neg (by decide +kernel)]
    refine wpAny_pure ?_
    unfold typeNameCut
    dsimp only
    unfold typeName
    refine wpAny_pure ?_
    refine wpAny_bind (show wpAny _ _ (pure ()) _ _ _ from wpAny_pure ?_)
    refine wpAny_bind (show wpAny _ _ (pure _) _ _ _ from wpAny_pure ?_)
    unfold setUsed
    have hfr : (SetTable.fresh 0 0 !w.params.followText "set-order").fits (#[] : Array (Int × Value)).size = true := rfl
    have hdat : ob.data = .set #[] 0 (SetTable.fresh 0 0 !w.params.followText "set-order") := by rw [← hob]
    refine wpAny_bind (wpAny_bind (wpAny_setState_of hnew hdat hfr (wpAny_pure ?_)))
    rw [if_neg (by simp [SetTable.fresh, SetTable.fill])]
    refine wpAny_bind ?_
    unfold Builtin.Frozenset.updateFrom Builtin.Frozenset.isAnySet
    obtain ⟨lo, hlo, hlc, hld⟩ := id hl
    have htl : ({ s with heap := s.heap.push ob } : Shared).TypeIs (.ref l) "list" := ⟨lo, Heap.get?_push_of_some _ hlo, hlc⟩
    refine wpAny_bind ?_
    unfold orM
    refine wpAny_bind (wpAny_isInstance htl F.sub_list_set ?_)
    refine wpAny_isInstance htl F.sub_list_frozenset ?_
    rw [if_neg (by decide)]
    refine wpAny_bind (wpAny_typeOf htl ?_)
    rw [if_neg (by decide +kernel)]
    refine wpAny_bind (wpAny_pyIter_list (hl.push ob) ?_)
    refine wpAny_bind (wpAny_runValue ?_)
    have hnl : s.heap.objs.size ≠ l := fun z => absurd (Heap.lt_size hlo) (by rw [← z]; exact Nat.lt_irrefl _)
    have isz : (s.heap.push ob).objs.size = s.heap.objs.size + 1 := size_push' _ _
    have hlI : l ≠ (s.heap.push ob).objs.size := fun z => by
      have h0 := Heap.lt_size hlo
      rw [z, isz] at h0
      exact Nat.not_lt.mpr (Nat.le_succ _) h0
    have hA2 : (A.in1.in1.in1).handled = none := hA
    have wk := (Walks.list (prog := P) (w := w) hA2 (s.heap.push ob).objs.size l hlI items).toS
    have hlen : xs.length = items.size := by
      have := hx.len_eq
      simpa using this.symm
    have hfp : s.heap.objs.size ∉ [(s.heap.push ob).objs.size, l] := fun z => by
      rcases List.mem_cons.mp z with z | z
      · omega
      · exact hnl (List.mem_singleton.mp z)
    have st0 : StrSet P w ((s.heap.push ob).push { cls := .type "list_iterator", data := .fields #[.ref l, .int 0 0] }) s.heap.objs.size (hasZ xs 0) 0 := by
      refine ⟨#[], 0, _, ⟨⟨ob, Heap.get?_push_of_some _ hnew, ?_, hdat⟩, (fun e he => by simp at he), fun k => ?_, (by decide), hfr, rfl, List.Pairwise.nil, ?_⟩⟩
      · rw [← hob]
        exact ⟨rfl, rfl, rfl⟩
      · unfold hasZ
        simp
      · show _ ∨ (!w.params.followText "set-order") = true
        cases w.params.followText "set-order" <;> simp
    refine strS_loop wk s.heap.objs.size hfp xs hlen (by omega) (fun i v hv => ?_) items.size 0 _ rfl (Nat.zero_le _) ⟨⟨_, Heap.get?_push_size _ rfl, rfl, rfl⟩, (hl.push ob).push _⟩ ⟨0, Nat.le_refl _, st0⟩ fun s' mv hs => ?_
    · obtain ⟨t, ht⟩ := SS.strs_at hx i v (by simpa using hv)
      have hi : i < xs.length := by
        rw [hlen]
        exact (Array.getElem?_eq_some_iff.mp hv).1
      exact ⟨_, t, List.getElem?_eq_getElem hi, by rw [ht]; simp [List.getD, hi]⟩
    obtain ⟨m, hm, ss⟩ := hs
    rw [← hlen] at hm ss
    dsimp only
    refine wpAny_pure (wpAny_pure ⟨_, rfl, wpAny_pure ?_⟩)
    dsimp only
    rw [if_neg (by decide)]
    refine wpAny_pure ?_
    dsimp only
    obtain ⟨h', g', d', tk', os'⟩ := s'
    have e1 := mv.gens
    have e2 := mv.drawn
    have e3 := mv.os
    dsimp only at e1 e2 e3 ss ⊢
    subst e1 e2 e3
    refine q h' tk' m hm ss fun b o e => mv.heap b o (fun z => ?_) (Heap.get?_push_of_some _ (Heap.get?_push_of_some _ e))
    have hb := Heap.lt_size e
    rcases List.mem_cons.mp z with z | z
    · rw [z] at hb
      exact absurd hb (Nat.lt_irrefl _)
    · rw [List.mem_singleton.mp z, isz] at hb
      exact Nat.not_lt.mpr (Nat.le_succ _) hb
  | .error e, h => exact h
end
end L2

namespace L2
open PySem PySem.Spec PyProof.Rows SrtO SrtZ
section
variable {P : Program} {w : World} {A : Around} {E : Value → Shared → Prop} {s : Shared} {a : Addr}
theorem isStr_of {z : Str} {v : Value} (h : (strKind P w).is z v = true) : ∃ t, v = .str z t := by
  cases v with
  | str x t =>
    have h := (strKind P w).inj (.str x t) z x h (strKind_is P w x t)
    exact ⟨t, by rw [h]⟩
  | _ => exact absurd h (by first | decide | (intro z; cases z))
theorem sorted_strS {S : Str → Bool} {n : Nat} {Q : Value → Shared → Prop} (hs : StrSet P w s.heap a S n) (hA : A.handled = none)
    (q : ∀ (s' : Shared) (p : Nat) (ys : List Str) (out : List Value), (∀ b o, s.heap.get? b = some o → s'.heap.get? b = some o) → s'.gens = s.gens → s'.os = s.os → s.heap.objs.size ≤ p → (∃ c, s'.heap.get? p = some (seqObj "list" out.toArray c)) → StrsAre out ys → (∀ z, z ∈ ys ↔ S z = true) → ys.length = n → Srtd ltZ ys → Q (.ref p) s') :
    wpAny (model P w) A (call (.builtin "sorted") [.ref a]) Q E s := by
  obtain ⟨es, ep, t, ⟨⟨o, h1, h2, h3⟩, el, is_, lt, fits, sz, ris, led⟩⟩ := hs
  subst sz
  refine call_function_entry_kw kind_sorted plain_sorted entry_sorted (args_sorted1 _) ?_
  unfold Builtin.«sorted»
  refine wpAny_bind (m := checkCount "sorted" 1 1 _) (wpAny_pure ?_)
  refine wpAny_bind (collect_set (A := A.in1) hA ⟨o, h1, h2.1, h3⟩ fits lt ris led fun s1 vs kp1 sz1 g1 os1 pm => ?_)
  have vl : vs.length = es.size := by
    have := pm.length_eq
    simpa using this
  have isS : ∀ v ∈ vs, ∃ x t, v = Value.str x t := fun v hv => by
    obtain ⟨e, he, rfl⟩ := List.mem_map.mp (pm.mem_iff.mp hv)
    obtain ⟨⟨k, hk, _⟩, _⟩ := el e he
    obtain ⟨t, ht⟩ := isStr_of hk
    exact ⟨k, t, ht⟩
  have hz : vs.length ≤ sizeLine := by rw [vl]; exact fits_of_scanBound lt
  refine wpAny_bind (wpAny_newList ?_ hz)
  have hoL : (s1.heap.push (seqObj "list" vs.toArray 0)).get? s1.heap.objs.size = some (seqObj "list" vs.toArray 0) := Heap.get?_push_size _ rfl
  refine wpAny_bind (wpAny_holding (wpAny_call_entry_kw slot_list_sort ⟨_, hoL, rfl⟩ entry_list_sort ?_ (args_list_sort _)))
  rw [plain_rev]
  refine SrtR.list_sort_ordR (s := { s1 with heap := s1.heap.push (seqObj "list" vs.toArray 0) }) (b := false) (ltv := ltSv) swo_str hoL hz (fun h2 => strs_sortable (strsAre_map vs isS) h2) fun out hs hb => ⟨_, rfl, ?_⟩
  refine wpAny_pure ⟨_, rfl, ?_⟩
  have pm2 : out.Perm vs := by
    have := hb.perm
    rwa [if_neg (by decide)] at this
  have isO : ∀ v ∈ out, ∃ x t, v = Value.str x t := fun v hv => isS v (pm2.mem_iff.mp hv)
  refine q _ _ (out.map strOf) out (fun b u e => ?_) g1 os1 sz1 (sortedHeap_at hoL) (strsAre_map out isO) (fun z => ?_) ?_ (srtd_map hs)
  · have k1 := kp1 b u e
    exact (sortedHeap_old (Nat.ne_of_lt (Heap.lt_size k1)) (Heap.lt_size (Heap.get?_push_of_some _ k1))).trans (Heap.get?_push_of_some _ k1)
  · rw [is_ z]
    constructor
    · intro h
      obtain ⟨v, hv, rfl⟩ := List.mem_map.mp h
      obtain ⟨e, he, rfl⟩ := List.mem_map.mp (pm.mem_iff.mp (pm2.mem_iff.mp hv))
      obtain ⟨⟨k, hk, _⟩, _⟩ := el e he
      obtain ⟨t, ht⟩ := isStr_of hk
      refine ⟨e, he, ?_⟩
      rw [ht] at hk ⊢
      exact hk
    · rintro ⟨e, he, hk⟩
      obtain ⟨t, ht⟩ := isStr_of hk
      refine List.mem_map.mpr ⟨e.2, pm2.mem_iff.mpr (pm.mem_iff.mpr (List.mem_map.mpr ⟨e, he, rfl⟩)), ?_⟩
      rw [ht]
      rfl
  · rw [List.length_map, pm2.length_eq, vl]
end
def SetS (P : Program) (w : World) (a : Addr) (S : Str → Bool) (n : Nat) : HO := .ext fun h => StrSet P w h a S n
theorem setS_ok {P : Program} {w : World} {H : Hp} {h : Heap} {a : Addr} {S : Str → Bool} {n : Nat} (st : StrSet P w h a S n) : ObjOk P w H h a (SetS P w a S n) :=
  ⟨st, (let ⟨_, _, _, ⟨⟨o, e, _⟩, _, _, _, _, _, _, _⟩⟩ := st; ⟨o, e⟩), fun h1 h2 x k => StrSet.keep x k⟩
section
variable {X : Cx}
/-- set(xs), xs a list of texts -/
def rSetOfS (K : PySem.W.Frag) (P : Program) (w : World) : List V → Hp → VK → Prop := fun xs H Q => ∃ (l : Addr) (zs : List Str), xs = [V.ref l] ∧ SqL K H l (zs.map V.str) ∧ zs.length ≤ 1000 ∧ ∀ (p : Addr) (n : Nat), H p = none → n ≤ dcz zs zs.length → Q (.ref p) (upd H p (SetS P w p (hasZ zs zs.length) n))
theorem cr_setOfS (hc : X.calm = true) : CallR X (.type "set") (rSetOfS X.K X.prog X.w) := by
  intro pins s σ H xs us Q I r h
  obtain ⟨l, zs, rfl, hS, hz, q⟩ := h
  obtain rfl := Vals.ref1 r
  obtain ⟨its, r', pl, hz'⟩ := I.list hS
  have h1 := strs_of_vals r'
  refine call_set_strs (items := its.toArray) (xs := zs) (I.ok.hd hc) pl.isList (by simpa using h1) (by show zs.length + 1 < 4096; omega) fun h' tk m hm ss kp => ?_
  have hf : H s.heap.objs.size = none := I.hok.fresh (Nat.le_refl _)
  exact ⟨.ref s.heap.objs.size, _, I.laid (t' := tk) kp (Nat.le_refl _) (setS_ok ss), rfl, q _ m hf hm⟩
/-- sorted(s), s a set of texts -/
def rSortedSS (P : Program) (w : World) : List V → Hp → VK → Prop := fun vs H Q => ∃ (a : Addr) (S : Str → Bool) (n : Nat), vs = [V.ref a] ∧ H a = some (SetS P w a S n) ∧ n ≤ 1000 ∧ ∀ (ys : List Str) (l : Addr), Srtd ltZ ys → (∀ z, z ∈ ys ↔ S z = true) → ys.length = n → H l = none → Q (.ref l) (upd H l (.lst (ys.map V.str)))
theorem cr_sortedSS (hc : X.calm = true) : CallR X (.builtin "sorted") (rSortedSS X.prog X.w) := by
  intro pins s σ H xs us Q I r h
  obtain ⟨a, S, n, rfl, ha, hn, q⟩ := h
  obtain rfl := Vals.ref1 r
  have ss : StrSet X.prog X.w s.heap a S n := (show ObjOk X.prog X.w H s.heap a (SetS X.prog X.w a S n) from I.hok a _ ha).1
  refine sorted_strS ss (I.ok.hd hc) fun s' p ys out kp g1 os1 hp hat hys hmem hlen hsrt => ?_
  obtain ⟨c, hat⟩ := hat
  have hf : H p = none := I.hok.fresh hp
  have hlen2 : (ys.map V.str).length ≤ sizeLine := by rw [List.length_map, hlen, sizeLine_eq]; omega
  have ok : ObjOk X.prog X.w (upd H p (.lst (ys.map V.str))) s'.heap p (.lst (ys.map V.str)) := ⟨hlen2, out, c, vals_of_strs hys, hat⟩
  obtain ⟨h', g', d', tk', os'⟩ := s'
  dsimp only at g1 os1 kp hat ok
  subst g1 os1
  exact ⟨.ref p, _, I.call (ch := []) (Un.laid kp hp hf) (I.hok.laid kp hp ok) I.bare (fun _ h => nomatch h), rfl, q ys p hsrt hmem hlen hf⟩
end
theorem memlen : ∀ {l m : List Str}, l.Nodup → (∀ x ∈ l, x ∈ m) → l.length ≤ m.length
  | [], _, _, _ => Nat.zero_le _
  | x :: l, m, nd, h => by
    rw [List.nodup_cons] at nd
    have hx := h x List.mem_cons_self
    have ih := memlen (l := l) (m := m.erase x) nd.2 fun y hy => (List.mem_erase_of_ne (fun z => nd.1 (by rw [← z]; exact hy))).mpr (h y (List.mem_cons_of_mem _ hy))
    rw [List.length_erase_of_mem hx] at ih
    have := List.length_pos_of_mem hx
    show l.length + 1 ≤ m.length
    omega
theorem memnd : ∀ {l m : List Str}, l.Nodup → (∀ x ∈ l, x ∈ m) → m.length ≤ l.length → m.Nodup
  | [], m, _, _, h => by
    have : m = [] := List.eq_nil_of_length_eq_zero (Nat.le_zero.mp h)
    rw [this]
    exact List.nodup_nil
  | x :: l, m, nd, h, hl => by
    have nd' := nd
    rw [List.nodup_cons] at nd
    have hx := h x List.mem_cons_self
    have hsub : ∀ y ∈ l, y ∈ m.erase x := fun y hy => (List.mem_erase_of_ne (fun z => nd.1 (by rw [← z]; exact hy))).mpr (h y (List.mem_cons_of_mem _ hy))
    have hle := List.length_erase_of_mem hx
    have hl' : m.length ≤ l.length + 1 := hl
    have ih := memnd (l := l) (m := m.erase x) nd.2 hsub (by omega)
    have hno : x ∉ m.erase x := fun z => by
      have := memlen (l := x :: l) (m := m.erase x) nd' fun y hy => by
        rcases List.mem_cons.mp hy with rfl | hy
        · exact z
        · exact hsub y hy
      have h0 : l.length + 1 ≤ (m.erase x).length := this
      have := List.length_pos_of_mem hx
      omega
    exact (List.perm_cons_erase hx).nodup_iff.mpr (List.nodup_cons.mpr ⟨hno, ih⟩)
/-- the unlike ones, each once -/
theorem dcz_list (xs : List Str) : ∀ i, i ≤ xs.length → ∃ l : List Str, l.Nodup ∧ l.length = dcz xs i ∧ ∀ z, z ∈ l ↔ hasZ xs i z = true
  | 0, _ => ⟨[], List.nodup_nil, rfl, fun z => by unfold hasZ; simp⟩
  | i + 1, h => by
    obtain ⟨l, nd, hl, hm⟩ := dcz_list xs i (by omega)
    have hx : xs[i]? = some xs[i] := List.getElem?_eq_getElem (by omega)
    generalize xs[i] = x at hx
    have hs := hasZ_snoc hx
    have hd := dcz_snoc hx
    cases e : hasZ xs i x with
    | true =>
      rw [e, if_pos rfl] at hd
      refine ⟨l, nd, by omega, fun z => ?_⟩
      rw [hm, hs, Bool.or_eq_true]
      constructor
      · exact .inl
      · rintro (h | h)
        · exact h
        · rw [of_decide_eq_true h]
          exact e
    | false =>
      rw [e, if_neg (by decide)] at hd
      refine ⟨x :: l, List.nodup_cons.mpr ⟨fun z => ?_, nd⟩, by rw [List.length_cons]; omega, fun z => ?_⟩
      · rw [hm, e] at z
        cases z
      · rw [List.mem_cons, hm, hs, Bool.or_eq_true, decide_eq_true_eq]
        exact Or.comm
theorem dcz_nd {xs ys : List Str} (h : ∀ z, z ∈ ys ↔ hasZ xs xs.length z = true) (hl : ys.length ≤ dcz xs xs.length) : ys.Nodup := by
  obtain ⟨l, nd, h1, h2⟩ := dcz_list xs xs.length (Nat.le_refl _)
  exact memnd nd (fun z hz => (h z).mpr ((h2 z).mp hz)) (by omega)
theorem hasZ_all (xs : List Str) (z : Str) : hasZ xs xs.length z = true ↔ z ∈ xs := by
  unfold hasZ
  rw [List.take_length, List.any_eq_true]
  constructor
  · rintro ⟨x, hx, e⟩
    rw [← of_decide_eq_true e]
    exact hx
  · intro h
    exact ⟨z, h, decide_eq_true rfl⟩
end L2

namespace Kb
open PySem PySem.Spec PyProof.Rows L2 SrtZ SrtO
theorem paired_imp {α β : Type} {F G : α → β → Prop} (h : ∀ a b, F a b → G a b) : ∀ {xs : List α} {ys : List β}, Paired F xs ys → Paired G xs ys
  | _, _, .nil => .nil
  | _, _, .cons a t => .cons (h _ _ a) (paired_imp h t)
theorem paired_snoc {α β : Type} {F : α → β → Prop} : ∀ {xs : List α} {ys : List β} {x : α} {y : β}, Paired F xs ys → F x y → Paired F (xs ++ [x]) (ys ++ [y])
  | _, _, _, _, .nil, h => .cons h .nil
  | _, _, _, _, .cons a t, h => .cons a (paired_snoc t h)
theorem paired_drop {α β : Type} {F : α → β → Prop} : ∀ {xs : List α} {ys : List β} (n : Nat), Paired F xs ys → Paired F (xs.drop n) (ys.drop n)
  | _, _, 0, h => h
  | _, _, _ + 1, .nil => .nil
  | _, _, n + 1, .cons _ t => paired_drop n t
theorem same_trans {H H1 H2 : Hp} (x : Same H H1) (y : Same H1 H2) : Same H H2 := fun b u e => y b u (x b u e)
theorem ptp_exw {a c k : Addr} {H H' : Hp} {xs : List V} (x : Exw a H H') (w : Wl a c H) (h : Ptp H k xs) : Ptp H' k xs := by
  obtain ⟨o, e, d⟩ := h
  obtain ⟨_, ns, t, u, z, _, e1, _⟩ := id w
  exact ⟨o, x.at w e (by intro _ z; cases z), d⟩
/-! anything -/
inductive Dat where
  | non
  | bl (b : Bool)
  | int (i : Int)
  | str (z : Str)
  | odd
  | tup (xs : List Dat)
/-- what its kinds say of an own class of errors -/
structure XcT (K : PySem.W.Frag) (C : Addr) : Prop where
  isC : ExcC K C
  kI : PySem.W.kitOne K (.ref C) (.type "int") = some false
  kB : PySem.W.kitOne K (.ref C) (.type "bool") = some false
  kS : PySem.W.kitOne K (.ref C) (.type "str") = some false
  kT : PySem.W.kitOne K (.ref C) (.type "tuple") = some false
/-- a list, a dict, an error -/
def OdA (K : PySem.W.Frag) (H : Hp) (a : Addr) : Prop := (∃ xs, SqL K H a xs) ∨ (∃ k, H a = some (.dK k)) ∨ ∃ C, XcT K C ∧ H a = some (ExO (.ref C) a)
def LfAt (K : PySem.W.Frag) (B L : Nat) (H : Hp) (v : V) : Dat → Prop
  | .non => v = .non
  | .bl b => v = .bl b
  | .int i => v = .int i ∧ i.natAbs ≤ B
  | .str z => v = .str z ∧ z.length ≤ L
  | .odd => ∃ a, v = .ref a ∧ OdA K H a
  | .tup _ => False
def DatAt (K : PySem.W.Frag) (B L : Nat) : Nat → Hp → V → Dat → Prop
  | 0, H, v, d => LfAt K B L H v d
  | n + 1, H, v, d => LfAt K B L H v d ∨ ∃ a xs ds, v = .ref a ∧ d = .tup ds ∧ Ptp H a xs ∧ xs.length ≤ L ∧ Paired (DatAt K B L n H) xs ds
/-- what keeps anything -/
structure DKeep (K : PySem.W.Frag) (H H' : Hp) : Prop where
  t : ∀ a xs, Ptp H a xs → Ptp H' a xs
  o : ∀ a, OdA K H a → OdA K H' a
theorem DKeep.refl {K : PySem.W.Frag} (H : Hp) : DKeep K H H := ⟨fun _ _ h => h, fun _ h => h⟩
theorem DKeep.trans {K : PySem.W.Frag} {H H1 H2 : Hp} (x : DKeep K H H1) (y : DKeep K H1 H2) : DKeep K H H2 := ⟨fun a xs h => y.t a xs (x.t a xs h), fun a h => y.o a (x.o a h)⟩
theorem dk_same {K : PySem.W.Frag} {H H' : Hp} (s : Same H H') : DKeep K H H' := ⟨fun a xs h => h.same s, fun a h => by
  rcases h with ⟨xs, (h | ⟨o, h⟩) | h⟩ | ⟨k, h⟩ | ⟨C, c, h⟩
  · exact .inl ⟨xs, .inl (.inl (s _ _ h))⟩
  · exact .inl ⟨xs, .inl (.inr ⟨o, s _ _ h⟩)⟩
  · exact .inl ⟨xs, .inr h⟩
  · exact .inr (.inl ⟨k, s _ _ h⟩)
  · exact .inr (.inr ⟨C, c, s _ _ h⟩)⟩
theorem dk_exw {K : PySem.W.Frag} {a c : Addr} {H H' : Hp} (x : Exw a H H') (w : Wl a c H) (w' : Wl a c H') : DKeep K H H' := ⟨fun b xs h => ptp_exw x w h, fun b h => by
  by_cases hb : b = a
  · subst hb
    obtain ⟨_, ns, t, u, z, y, e, _⟩ := w'
    exact .inl ⟨_, sql e⟩
  · rcases h with ⟨xs, (h | ⟨o, h⟩) | h⟩ | ⟨k, h⟩ | ⟨C, c, h⟩
    · exact .inl ⟨xs, .inl (.inl (x b _ hb h))⟩
    · exact .inl ⟨xs, .inl (.inr ⟨o, x b _ hb h⟩)⟩
    · exact .inl ⟨xs, .inr h⟩
    · exact .inr (.inl ⟨k, x b _ hb h⟩)
    · exact .inr (.inr ⟨C, c, x b _ hb h⟩)⟩
/-- a list is stored anew -/
theorem dk_put {K : PySem.W.Frag} {p : Addr} {H : Hp} {xs ys : List V} (h : H p = some (.lst xs)) : DKeep K H (upd H p (.lst ys)) := ⟨fun b zs ⟨o, e, d⟩ => ⟨o, by rw [upd_ne (ne_of e h (by intro z; cases z))]; exact e, d⟩, fun b hb => by
  by_cases e : b = p
  · subst e
    exact .inl ⟨ys, sql upd_same⟩
  · rcases hb with ⟨xs, (h | ⟨o, h⟩) | h⟩ | ⟨k, h⟩ | ⟨C, c, h⟩
    · exact .inl ⟨xs, .inl (.inl (by rw [upd_ne e]; exact h))⟩
    · exact .inl ⟨xs, .inl (.inr ⟨o, by rw [upd_ne e]; exact h⟩)⟩
    · exact .inl ⟨xs, .inr h⟩
    · exact .inr (.inl ⟨k, by rw [upd_ne e]; exact h⟩)
    · exact .inr (.inr ⟨C, c, by rw [upd_ne e]; exact h⟩)⟩
theorem LfAt.keep {K : PySem.W.Frag} {B L : Nat} {H H' : Hp} (k : DKeep K H H') {v : V} : ∀ {d : Dat}, LfAt K B L H v d → LfAt K B L H' v d
  | .non, h => h
  | .bl _, h => h
  | .int _, h => h
  | .str _, h => h
  | .odd, ⟨a, e, h⟩ => ⟨a, e, k.o a h⟩
  | .tup _, h => h.elim
theorem DatAt.keep {K : PySem.W.Frag} {B L : Nat} {H H' : Hp} (k : DKeep K H H') : ∀ {n : Nat} {v : V} {d : Dat}, DatAt K B L n H v d → DatAt K B L n H' v d
  | 0, _, _, h => LfAt.keep k h
  | n + 1, v, d, h => by
    rcases h with h | ⟨a, xs, ds, e1, e2, h1, h2, h3⟩
    · exact .inl (LfAt.keep k h)
    · exact .inr ⟨a, xs, ds, e1, e2, k.t a xs h1, h2, paired_imp (fun _ _ h => DatAt.keep k h) h3⟩
theorem DatAt.same {K : PySem.W.Frag} {B L n : Nat} {H H' : Hp} {v : V} {d : Dat} (h : DatAt K B L n H v d) (s : Same H H') : DatAt K B L n H' v d := h.keep (dk_same s)
theorem LfAt.wide {K : PySem.W.Frag} {B L B' L' : Nat} {H : Hp} (hB : B ≤ B') (hL : L ≤ L') {v : V} : ∀ {d : Dat}, LfAt K B L H v d → LfAt K B' L' H v d
  | .non, h => h
  | .bl _, h => h
  | .int _, h => ⟨h.1, Nat.le_trans h.2 hB⟩
  | .str _, h => ⟨h.1, Nat.le_trans h.2 hL⟩
  | .odd, h => h
  | .tup _, h => h.elim
theorem DatAt.wide {K : PySem.W.Frag} {B L B' L' : Nat} {H : Hp} (hB : B ≤ B') (hL : L ≤ L') : ∀ {n m : Nat} {v : V} {d : Dat}, n ≤ m → DatAt K B L n H v d → DatAt K B' L' m H v d
  | 0, 0, _, _, _, h => LfAt.wide hB hL h
  | 0, m + 1, _, _, _, h => .inl (LfAt.wide hB hL h)
  | n + 1, 0, _, _, hm, _ => absurd hm (by omega)
  | n + 1, m + 1, v, d, hm, h => by
    rcases h with h | ⟨a, xs, ds, e1, e2, h1, h2, h3⟩
    · exact .inl (LfAt.wide hB hL h)
    · exact .inr ⟨a, xs, ds, e1, e2, h1, Nat.le_trans h2 hL, paired_imp (fun _ _ h => DatAt.wide hB hL (by omega) h) h3⟩
theorem DatAt.leaf {K : PySem.W.Frag} {B L : Nat} {H : Hp} {v : V} {d : Dat} (h : LfAt K B L H v d) : ∀ {n : Nat}, DatAt K B L n H v d
  | 0 => h
  | _ + 1 => .inl h
def isI : Dat → Bool
  | .int _ => true
  | .bl _ => true
  | _ => false
def isBd : Dat → Bool
  | .bl _ => true
  | _ => false
def isS : Dat → Bool
  | .str _ => true
  | _ => false
def isT : Dat → Bool
  | .tup _ => true
  | _ => false
def isN : Dat → Bool
  | .non => true
  | _ => false
theorem DatAt.cases {K : PySem.W.Frag} {B L n : Nat} {H : Hp} {v : V} {d : Dat} (h : DatAt K B L n H v d) : LfAt K B L H v d ∨ ∃ m a xs ds, n = m + 1 ∧ v = .ref a ∧ d = .tup ds ∧ Ptp H a xs ∧ xs.length ≤ L ∧ Paired (DatAt K B L m H) xs ds := by
  cases n with
  | zero => exact .inl h
  | succ n =>
    rcases h with h | ⟨a, xs, ds, e1, e2, h1, h2, h3⟩
    · exact .inl h
    · exact .inr ⟨n, a, xs, ds, rfl, e1, e2, h1, h2, h3⟩
theorem sqL_ty {K : PySem.W.Frag} {H : Hp} {a : Addr} {xs : List V} (h : SqL K H a xs) : TyX K H (.ref a) (.type "list") := by
  rcases h with (h | ⟨o, h⟩) | ⟨o, its, n, e, c, _⟩
  · exact .base (.lst h)
  · exact .base (.frz h)
  · exact .kList e c
/-- the kinds of anything -/
theorem DatAt.ty {K : PySem.W.Frag} {B L n : Nat} {H : Hp} {v : V} {d : Dat} (h : DatAt K B L n H v d) : ∃ t, TyD K H v t ∧ PySem.W.kitOne K t (.type "int") = some (isI d) ∧ PySem.W.kitOne K t (.type "bool") = some (isBd d) ∧ PySem.W.kitOne K t (.type "str") = some (isS d) ∧ PySem.W.kitOne K t (.type "tuple") = some (isT d) := by
  rcases h.cases with h | ⟨m, a, xs, ds, rfl, rfl, rfl, h1, h2, h3⟩
  · cases d with
    | non =>
      cases (show v = .non from h)
      exact ⟨.type "NoneType", .inl (.base .non), kit_ty (show kitB "NoneType" "int" = some false by decide +kernel), kit_ty (show kitB "NoneType" "bool" = some false by decide +kernel), kit_ty (show kitB "NoneType" "str" = some false by decide +kernel), kit_ty (show kitB "NoneType" "tuple" = some false by decide +kernel)⟩
    | bl b =>
      cases (show v = .bl b from h)
      exact ⟨.type "bool", .inl (.base (.bl b)), kit_ty (show kitB "bool" "int" = some true by decide +kernel), kit_ty (show kitB "bool" "bool" = some true by decide +kernel), kit_ty (show kitB "bool" "str" = some false by decide +kernel), kit_ty (show kitB "bool" "tuple" = some false by decide +kernel)⟩
    | int i =>
      cases h.1
      exact ⟨.type "int", .inl (.base (.int i)), kit_ty (show kitB "int" "int" = some true by decide +kernel), kit_ty (show kitB "int" "bool" = some false by decide +kernel), kit_ty (show kitB "int" "str" = some false by decide +kernel), kit_ty (show kitB "int" "tuple" = some false by decide +kernel)⟩
    | str z =>
      cases h.1
      exact ⟨.type "str", .inl (.base (.str z)), kit_ty (show kitB "str" "int" = some false by decide +kernel), kit_ty (show kitB "str" "bool" = some false by decide +kernel), kit_ty (show kitB "str" "str" = some true by decide +kernel), kit_ty (show kitB "str" "tuple" = some false by decide +kernel)⟩
    | odd =>
      obtain ⟨a, rfl, ⟨xs, h⟩ | ⟨k, h⟩ | ⟨C, c, h⟩⟩ := h
      · exact ⟨.type "list", .inl (sqL_ty h), kit_ty (show kitB "list" "int" = some false by decide +kernel), kit_ty (show kitB "list" "bool" = some false by decide +kernel), kit_ty (show kitB "list" "str" = some false by decide +kernel), kit_ty (show kitB "list" "tuple" = some false by decide +kernel)⟩
      · exact ⟨.type "dict", .inl (.base (.dK h)), kit_ty (show kitB "dict" "int" = some false by decide +kernel), kit_ty (show kitB "dict" "bool" = some false by decide +kernel), kit_ty (show kitB "dict" "str" = some false by decide +kernel), kit_ty (show kitB "dict" "tuple" = some false by decide +kernel)⟩
      · exact ⟨.ref C, .inr ⟨a, C, rfl, rfl, h, c.isC⟩, c.kI, c.kB, c.kS, c.kT⟩
    | tup _ => exact h.elim
  · exact ⟨.type "tuple", .inl (tyT (K := K) h1.seq), kit_ty (show kitB "tuple" "int" = some false by decide +kernel), kit_ty (show kitB "tuple" "bool" = some false by decide +kernel), kit_ty (show kitB "tuple" "str" = some false by decide +kernel), kit_ty (show kitB "tuple" "tuple" = some true by decide +kernel)⟩
/-- anything, as the judges meet it -/
def DtAt (K : PySem.W.Frag) (H : Hp) (v : V) (d : Dat) : Prop := ∃ n, DatAt K (2 ^ 90) 5000 n H v d
theorem DtAt.keep {K : PySem.W.Frag} {H H' : Hp} {v : V} {d : Dat} (h : DtAt K H v d) (k : DKeep K H H') : DtAt K H' v d := let ⟨n, h⟩ := h; ⟨n, h.keep k⟩
theorem DtAt.same {K : PySem.W.Frag} {H H' : Hp} {v : V} {d : Dat} (h : DtAt K H v d) (s : Same H H') : DtAt K H' v d := h.keep (dk_same s)
theorem DtAt.ty {K : PySem.W.Frag} {H : Hp} {v : V} {d : Dat} (h : DtAt K H v d) : ∃ t, TyD K H v t ∧ PySem.W.kitOne K t (.type "int") = some (isI d) ∧ PySem.W.kitOne K t (.type "bool") = some (isBd d) ∧ PySem.W.kitOne K t (.type "str") = some (isS d) ∧ PySem.W.kitOne K t (.type "tuple") = some (isT d) := let ⟨n, h⟩ := h; h.ty
theorem DtAt.tup {K : PySem.W.Frag} {H : Hp} {v : V} {ds : List Dat} (h : DtAt K H v (.tup ds)) : ∃ a xs, v = .ref a ∧ Ptp H a xs ∧ xs.length ≤ 5000 ∧ Paired (DtAt K H) xs ds := by
  obtain ⟨n, h⟩ := h
  rcases h.cases with h | ⟨m, a, xs, ds, rfl, rfl, e, h1, h2, h3⟩
  · exact h.elim
  · cases e
    exact ⟨a, xs, rfl, h1, h2, paired_imp (fun _ _ h => ⟨m, h⟩) h3⟩
theorem DtAt.int {K : PySem.W.Frag} {H : Hp} {v : V} {i : Int} (h : DtAt K H v (.int i)) : v = .int i ∧ i.natAbs ≤ 2 ^ 90 := by
  obtain ⟨n, h⟩ := h
  rcases h.cases with h | ⟨m, a, xs, ds, rfl, rfl, e, h1, h2, h3⟩
  · exact h
  · cases e
theorem DtAt.str {K : PySem.W.Frag} {H : Hp} {v : V} {z : Str} (h : DtAt K H v (.str z)) : v = .str z ∧ z.length ≤ 5000 := by
  obtain ⟨n, h⟩ := h
  rcases h.cases with h | ⟨m, a, xs, ds, rfl, rfl, e, h1, h2, h3⟩
  · exact h
  · cases e
def intD : Dat → Option Int
  | .int i => some i
  | _ => none
def geI (d : Dat) : Int := (intD d).getD 0
def nmB (z : Str) : Bool := decide (1 ≤ z.length) && (decide (z.length ≤ 8) && (cs z).all nmC)
theorem nmB_nm {z : Str} : nmB z = true ↔ Nm z := by
  unfold nmB
  rw [Bool.and_eq_true, Bool.and_eq_true, decide_eq_true_eq, decide_eq_true_eq, List.all_eq_true]
  exact ⟨fun ⟨a, b, c⟩ => ⟨a, b, c⟩, fun ⟨a, b, c⟩ => ⟨a, b, c⟩⟩
def nameD : Dat → Bool
  | .str z => nmB z
  | _ => false
theorem DatAt.lint {K : PySem.W.Frag} {B L n : Nat} {H : Hp} {i : Int} (h : i.natAbs ≤ B) : DatAt K B L n H (.int i) (.int i) := .leaf (show LfAt K B L H (.int i) (.int i) from ⟨rfl, h⟩)
theorem DatAt.lstr {K : PySem.W.Frag} {B L n : Nat} {H : Hp} {z : Str} (h : z.length ≤ L) : DatAt K B L n H (.str z) (.str z) := .leaf (show LfAt K B L H (.str z) (.str z) from ⟨rfl, h⟩)
theorem DatAt.lbl {K : PySem.W.Frag} {B L n : Nat} {H : Hp} {b : Bool} : DatAt K B L n H (.bl b) (.bl b) := .leaf (show LfAt K B L H (.bl b) (.bl b) from rfl)
theorem DatAt.lnon {K : PySem.W.Frag} {B L n : Nat} {H : Hp} : DatAt K B L n H .non .non := .leaf (show LfAt K B L H .non .non from rfl)
theorem DatAt.lodd {K : PySem.W.Frag} {B L n : Nat} {H : Hp} {a : Addr} (h : OdA K H a) : DatAt K B L n H (.ref a) .odd := .leaf (show LfAt K B L H (.ref a) .odd from ⟨a, rfl, h⟩)
theorem DatAt.ltup {K : PySem.W.Frag} {B L n : Nat} {H : Hp} {a : Addr} {xs : List V} {ds : List Dat} (h1 : Ptp H a xs) (h2 : xs.length ≤ L) (h3 : Paired (DatAt K B L n H) xs ds) : DatAt K B L (n + 1) H (.ref a) (.tup ds) := .inr ⟨a, xs, ds, rfl, rfl, h1, h2, h3⟩
theorem dint (a b : Int) : decide (V.int a = V.int b) = decide (a = b) := by
  by_cases h : a = b
  · rw [decide_eq_true h, decide_eq_true (congrArg V.int h)]
  · rw [decide_eq_false h, decide_eq_false (fun z => h (by injection z))]
theorem sapp_len (a b : Str) : (a ++ b).length = a.length + b.length := by
  show (a.cps ++ b.cps).size = _
  rw [Array.size_append]
  rfl
theorem paired_at {α β : Type} {F : α → β → Prop} : ∀ {xs : List α} {ys : List β} {i : Nat} {x : α}, Paired F xs ys → xs[i]? = some x → ∃ y, ys[i]? = some y ∧ F x y
  | _, _, 0, _, .cons h _, e => ⟨_, rfl, by cases e; exact h⟩
  | _, _, i + 1, _, .cons _ t, e => paired_at (i := i) t e
theorem paired_take {α β : Type} {F : α → β → Prop} : ∀ {xs : List α} {ys : List β} (n : Nat), Paired F xs ys → Paired F (xs.take n) (ys.take n)
  | _, _, 0, _ => .nil
  | _, _, _ + 1, .nil => .nil
  | _, _, n + 1, .cons h t => .cons h (paired_take n t)
theorem paired_app {α β : Type} {F : α → β → Prop} : ∀ {xs xs' : List α} {ys ys' : List β}, Paired F xs ys → Paired F xs' ys' → Paired F (xs ++ xs') (ys ++ ys')
  | _, _, _, _, .nil, k => k
  | _, _, _, _, .cons h t, k => .cons h (paired_app t k)
theorem pick {α β : Type} {F : α → β → Prop} {xs : List α} {ys : List β} {j : Nat} (p : Paired F xs ys) (h : j < xs.length) : ∃ x y, xs[j]? = some x ∧ F x y := by
  have e := List.getElem?_eq_getElem h
  obtain ⟨y, _, hy⟩ := paired_at p e
  exact ⟨_, y, e, hy⟩
/-- a plain tuple of anything -/
def Tq (K : PySem.W.Frag) (B L n m : Nat) (H : Hp) (a : Addr) : Prop := ∃ (xs : List V) (ds : List Dat), Ptp H a xs ∧ xs.length ≤ m ∧ Paired (DatAt K B L n H) xs ds
theorem Tq.keep {K : PySem.W.Frag} {B L n m : Nat} {H H' : Hp} {a : Addr} (h : Tq K B L n m H a) (k : DKeep K H H') : Tq K B L n m H' a := by
  obtain ⟨xs, ds, h1, h2, h3⟩ := h
  exact ⟨xs, ds, k.t a xs h1, h2, paired_imp (fun _ _ h => h.keep k) h3⟩
theorem Tq.same {K : PySem.W.Frag} {B L n m : Nat} {H H' : Hp} {a : Addr} (h : Tq K B L n m H a) (s : Same H H') : Tq K B L n m H' a := h.keep (dk_same s)
theorem Tq.dat {K : PySem.W.Frag} {B L B' L' n m : Nat} {H : Hp} {a : Addr} (h : Tq K B L n m H a) (hB : B ≤ B') (hL : L ≤ L') (hm : m ≤ L') : ∃ d, DatAt K B' L' (n + 1) H (.ref a) d := by
  obtain ⟨xs, ds, h1, h2, h3⟩ := h
  exact ⟨.tup ds, .ltup h1 (by omega) (paired_imp (fun _ _ h => h.wide hB hL (Nat.le_refl _)) h3)⟩
def wiB (lo hi : Int) : Option Int → Bool
  | some i => decide (lo ≤ i) && decide (i ≤ hi)
  | none => false
def chainR (ns : List Str) : Bool := (List.range (ns.length - 1)).all fun k => ltZ (ns.getD k (Str.ofString "")) (ns.getD (k + 1) (Str.ofString ""))
theorem chainR_cons (a b : Str) (r : List Str) : chainR (a :: b :: r) = (ltZ a b && chainR (b :: r)) := by
  unfold chainR
  rw [show (a :: b :: r).length - 1 = r.length + 1 from rfl, show (b :: r).length - 1 = r.length from rfl, List.range_succ_eq_map, List.all_cons, List.all_map]
  rfl
theorem atI_cast {xs : List V} {n : Nat} {j : Int} {v : V} (e : j = (n : Int)) (h : xs[n]? = some v) : atI xs j = some v := by
  subst e
  exact atI_nat h
theorem abc_mem (c : Nat) : decide (c ∈ (Str.ofString "abcdefghijklmnopqrstuvwxyz").cps.toList) = nmC c := by
  rw [show (Str.ofString "abcdefghijklmnopqrstuvwxyz").cps.toList = (List.range 26).map (97 + ·) by decide +kernel]
  unfold nmC
  by_cases h1 : c < 97
  · rw [decide_eq_true h1]
    refine decide_eq_false fun h => ?_
    obtain ⟨i, _, hi⟩ := List.mem_map.mp h
    omega
  · rw [decide_eq_false h1]
    by_cases h2 : 122 < c
    · rw [decide_eq_true h2]
      refine decide_eq_false fun h => ?_
      obtain ⟨i, h3, hi⟩ := List.mem_map.mp h
      have := List.mem_range.mp h3
      omega
    · rw [decide_eq_false h2]
      refine decide_eq_true (List.mem_map.mpr ⟨c - 97, List.mem_range.mpr (by omega), by omega⟩)
theorem wi_is {lo hi : Int} {d : Dat} (h : wiB lo hi (intD d) = true) : ∃ i, d = .int i ∧ lo ≤ i ∧ i ≤ hi := by
  cases d with
  | int i =>
    have h : (decide (lo ≤ i) && decide (i ≤ hi)) = true := h
    rw [Bool.and_eq_true, decide_eq_true_eq, decide_eq_true_eq] at h
    exact ⟨i, rfl, h.1, h.2⟩
  | _ => cases h
theorem nameD_is {d : Dat} (h : nameD d = true) : ∃ z, d = .str z ∧ Nm z := by
  cases d with
  | str z => exact ⟨z, rfl, nmB_nm.mp h⟩
  | _ => cases h
section
variable {P : Program} {w : World} {K : PySem.W.Frag} {mg : Str → Option Value} {base : Heap}
def spIsIntD (K : PySem.W.Frag) : Sp := fun vs H Q _ => ∃ (v : V) (d : Dat), vs = [v] ∧ DtAt K H v d ∧ Q (.bl (intD d).isSome) H
theorem ok_is_intD (T : Blt mg) (d : DnIsInt K mg) : FnOk P w K mg base CX0 1 d.f d.fd ["thing"] (spIsIntD K) := by
  refine d.F.ok scP_is_int (fun vs H Q E h => ?_) (fun cdv A outer s H vs Q E hr h => ?_)
  · obtain ⟨v, n, rfl, _⟩ := h
    rfl
  · obtain ⟨v, x, rfl, hx, q⟩ := h
    refine ⟨_, (pss_one (ps_ret (pe_and (pe_callB (call_isD (K := K) rfl) (by rfl) T.n_isinstance (by decide +kernel) (pa_cons (pv 0) (pa_cons (pe_bltn (v := .ty "int") (by rfl) T.n_int (by decide +kernel) rfl) pa_nil))) (pe_one (pe_not (pe_callB (call_isD (K := K) rfl) (by rfl) T.n_isinstance (by decide +kernel) (pa_cons (pv 0) (pa_cons (pe_bltn (v := .ty "bool") (by rfl) T.n_bool (by decide +kernel) rfl) pa_nil)))))))), ?_⟩
    obtain ⟨t, ty, kI, kB, kS, kT⟩ := hx.ty
    refine ⟨v, rfl, v, _, t, _, isI x, rfl, .ty "int", ty, kI, isI x, rfl, ?_⟩
    cases x with
    | int i => exact iteT ⟨_, rfl, _, _, t, _, false, rfl, .ty "bool", ty, kB, false, rfl, q⟩
    | bl b => exact iteT ⟨_, rfl, _, _, t, _, true, rfl, .ty "bool", ty, kB, true, rfl, q⟩
    | _ => exact iteF q
/-! is_name, of anything -/
def spIsNameD (K : PySem.W.Frag) : Sp := fun vs H Q _ => ∃ (v : V) (d : Dat), vs = [v] ∧ DtAt K H v d ∧ ∀ H', Same H H' → Q (.bl (nameD d)) H'
theorem ok_is_nameD (T : Blt mg) (cL : Cst mg "LONGEST_NAME" (.int 8)) (d : DnIsName K mg) : FnOk P w K mg base CX0 1 d.f d.fd ["thing"] (spIsNameD K) := by
  refine d.F.ok scP_is_name (fun vs H Q E h => ?_) (fun cdv A outer s H vs Q E hr h => ?_)
  · obtain ⟨v, n, rfl, _⟩ := h
    rfl
  · obtain ⟨v, x, rfl, hx, q⟩ := h
    refine ⟨_, (pss_cons (ps_if (PW.pt (pw_or (pt_not (pt_val (pe_callB (call_isD (K := K) rfl) (by rfl) T.n_isinstance (by decide +kernel) (pa_cons (pv 0) (pa_cons (pe_bltn (v := .ty "str") (by rfl) T.n_str (by decide +kernel) rfl) pa_nil))))) (pw_or1 (pt_not (pt_chain op_le op_le pe_int (pe_callB call_len_str (by rfl) T.n_len (by decide +kernel) (pa_cons (pv 0) pa_nil)) (pe_glob rfl cL.g cL.r))))))
      (pss_one (ps_ret pe_bl))
      pss_nil)
    (pss_one (ps_ret (pe_callB (cr_all rfl) (by rfl) T.n_all (by decide +kernel) (pa_cons (pe_lc (own := [("letter", 1)]) (g := gName 1) (tt := tYes) rfl scP_is_name.nd (pi_str (pv 0)) (blkOk_by (N := NP_is_name) (sc := defScope sP_is_name) (by decide +kernel)) (fun _ _ _ _ _ => pg_name (i := 1) scP_is_name.nd rfl (Or.inl rfl)) (fun _ _ _ _ _ => pts_nil) (fun _ _ _ _ _ => (pe_chain op_le_str op_le_str pe_str (pv 1) pe_str))) pa_nil))))), ?_⟩
    obtain ⟨t, ty, kI, kB, kS, kT⟩ := hx.ty
    refine ⟨v, rfl, v, _, t, _, isS x, rfl, .ty "str", ty, kS, isS x, rfl, ?_⟩
    cases x with
    | str z =>
      obtain ⟨rfl, hz⟩ := hx.str
      have q : ∀ H', Same H H' → Q (.bl (decide (1 ≤ z.length) && (decide (z.length ≤ 8) && (cs z).all nmC))) H' := q
      refine iteF ⟨.str z, rfl, z, rfl, (by rw [sizeLine_eq]; omega), _, _, rfl, rfl, ?_⟩
      by_cases h1 : 1 ≤ z.length
      · rw [decide_eq_true h1, Bool.true_and] at q
        refine ⟨true, congrArg V.bl (decide_eq_true (by omega)), iteT ⟨_, _, rfl, rfl, ?_⟩⟩
        by_cases h8 : z.length ≤ 8
        · rw [decide_eq_true h8, Bool.true_and] at q
          refine ⟨true, congrArg V.bl (decide_eq_true (by omega)), iteF ⟨.str z, rfl, z, rfl, fun D nD => ?_⟩⟩
          refine lc_it walk_str (fun i H3 => Same H H3 ∧ H3 D = some (.lst (((cs z).take i).map fun c => V.bl (nmC c)))) ⟨same_upd nD, upd_same⟩ (fun _ _ _ _ => trivial) (fun i x H3 H4 hi h3 y => ?_) (fun H3 h3 => ?_)
          · obtain ⟨rfl, c, hc, rfl⟩ := y
            have hc2 : (cs z)[i]? = some c := by
              rw [← hc]
              simp [cs]
            have fin : ∃ xs, H4 D = some (.lst xs) ∧ xs.length + 1 ≤ sizeLine ∧ (Same H (upd H4 D (.lst (xs ++ [V.bl (nmC c)]))) ∧ (upd H4 D (.lst (xs ++ [V.bl (nmC c)]))) D = some (.lst (((cs z).take (i + 1)).map fun c => V.bl (nmC c)))) := by
              refine ⟨_, h3.2, ?_, fun b o e => ?_, ?_⟩
              · rw [List.length_map, List.length_take, sizeLine_eq]
                have := cs_len z
                omega
              · rw [upd_ne (ne_of_none e nD)]
                exact h3.1 b o e
              · rw [upd_same, List.take_add_one, hc2, List.map_append]
                rfl
            have e1 : (!decide ((cs ⟨#[c]⟩) < (Str.ofString "a").cps.toList)) = !decide (c < 97) := by
              rw [show (Str.ofString "a").cps.toList = [97] by decide +kernel]
              show (!decide ([c] < [97])) = _
              rw [lt_one]
            have e2 : (!decide ((Str.ofString "z").cps.toList < cs ⟨#[c]⟩)) = !decide (122 < c) := by
              rw [show (Str.ofString "z").cps.toList = [122] by decide +kernel]
              show (!decide ([122] < [c])) = _
              rw [lt_one]
            refine ⟨rfl, .str ⟨#[c]⟩, rfl, _, _, rfl, rfl, !decide (c < 97), congrArg V.bl e1, ite2 (fun ea => ⟨_, _, rfl, rfl, ?_⟩) (fun ea => ?_)⟩
            · have en : nmC c = !decide (122 < c) := by
                unfold nmC
                rw [ea, Bool.true_and]
              rw [en] at fin
              show ∃ xs, _
              rw [show (!decide ((Str.ofString "z").cps.toList < ([c] : List Nat))) = !decide (122 < c) from e2]
              exact fin
            · have en : nmC c = false := by
                unfold nmC
                rw [show (!decide (c < 97)) = false by simpa using ea, Bool.false_and]
              rw [en] at fin
              exact fin
          · refine ⟨D, (cs z).map nmC, rfl, sql ?_, ?_⟩
            · rw [h3.2, List.map_map]
              rw [List.take_of_length_le (by
                show (cs z).length ≤ z.cps.size
                simp [cs])]
              rfl
            · rw [show ((cs z).map nmC).all id = (cs z).all nmC by rw [List.all_map]; rfl]
              exact q H3 h3.1
        · rw [decide_eq_false h8, Bool.false_and] at q
          exact ⟨false, congrArg V.bl (decide_eq_false (by omega)), iteT (q H (Same.refl H))⟩
      · rw [decide_eq_false h1, Bool.false_and] at q
        exact ⟨false, congrArg V.bl (decide_eq_false (by omega)), iteF ⟨false, rfl, iteT (q H (Same.refl H))⟩⟩
    | _ => exact iteT (iteT (q H (Same.refl H)))
end
end Kb

namespace Kb
open PySem PySem.Spec PyProof.Rows L2 SrtZ SrtO RZ
abbrev sP_is_question : Stmt := topS 10
theorem scP_is_question : FnScope ["thing", "word"] ["thing"] (defScope sP_is_question) := ⟨rfl, rfl, rfl, by decide +kernel, rfl, by decide +kernel, by decide +kernel⟩
abbrev DnIsQuestion (K : PySem.W.Frag) (mg : Str → Option Value) := Dn K mg "is_question" sP_is_question ["thing"]
abbrev sP_is_lot : Stmt := topS 11
abbrev NP_is_lot : List Str := ["thing", "one", "other", "name"]
theorem scP_is_lot : FnScope ["thing", "one", "other", "name"] ["thing"] (defScope sP_is_lot) := ⟨rfl, rfl, rfl, by decide +kernel, rfl, by decide +kernel, by decide +kernel⟩
abbrev DnIsLot (K : PySem.W.Frag) (mg : Str → Option Value) := Dn K mg "_is_lot" sP_is_lot ["thing"]
theorem inV_str {z : Str} {fs : List Str} : inV (V.str z) (fs.map V.str) = decide (z ∈ fs) := by
  unfold inV
  rw [List.any_map]
  by_cases h : z ∈ fs
  · rw [decide_eq_true h]
    refine List.any_eq_true.mpr ⟨z, h, ?_⟩
    show (z == z) = true
    exact beq_self_eq_true z
  · rw [decide_eq_false h]
    refine List.any_eq_false.mpr fun y hy => ?_
    show ¬ (y == z) = true
    intro e
    exact h (eq_of_beq e ▸ hy)
theorem walk_zipT {K : PySem.W.Frag} {a b : Addr} {xs ys : List V} {n : Nat} (hn : n = min xs.length ys.length) : Walk (ItzT K a b) n (fun H => SqT K H a xs ∧ SqT K H b ys) (YPair (fun i => xs[i]?) (fun i => ys[i]?)) := by
  subst hn
  refine ⟨fun i _ hi q => ?_, fun _ q => ⟨xs, ys, q.1, q.2, by omega⟩, fun i H v H' _ q y => ?_⟩
  · have h1 : i < xs.length := by omega
    have h2 : i < ys.length := by omega
    exact ⟨xs, ys, xs[i], ys[i], q.1, q.2, by simp [h1], by simp [h2]⟩
  · obtain ⟨T, x, z, h1, h2, h3, h4, h5⟩ := y
    exact ⟨T, x, z, h1, h2, h3, h4 xs q.1, h5 ys q.2⟩
theorem dstr (a b : Str) : decide (V.str a = V.str b) = decide (a = b) := by
  by_cases h : a = b
  · rw [decide_eq_true h, decide_eq_true (congrArg V.str h)]
  · rw [decide_eq_false h, decide_eq_false (fun z => h (by injection z))]
theorem inV2 (w a b : Str) : inV (V.str w) [V.str a, V.str b] = decide (w = a ∨ w = b) := by
  have h := inV_str (z := w) (fs := [a, b])
  rw [show [V.str a, V.str b] = [a, b].map V.str from rfl, h]
  by_cases e : w = a ∨ w = b
  · rw [decide_eq_true e]
    exact decide_eq_true (by simpa using e)
  · rw [decide_eq_false e]
    exact decide_eq_false (by simpa using e)
theorem cut_rest {xs : List V} {b : Nat} : cutV xs (some (b : Int)) none = xs.drop b := by
  unfold cutV
  rw [HT.sIx_nat, HT.sIx_none]
  by_cases h : b ≤ xs.length
  · rw [show min b xs.length = b by omega]
    exact List.take_of_length_le (by rw [List.length_drop]; exact Nat.le_refl _)
  · rw [show min b xs.length = xs.length by omega, List.drop_length, List.take_nil, List.drop_eq_nil_of_le (by omega)]
/-! questions, as data -/
def strD : Dat → Str
  | .str z => z
  | _ => Str.ofString ""
def lotB : Dat → Bool
  | .tup ks => decide (ks.length ≤ 40) && (ks.all nameD && chainR (ks.map strD))
  | _ => false
def qnP (w : Str) (ps : List Dat) : Bool :=
  if w = Str.ofString "unlike" ∨ w = Str.ofString "squares" then decide (ps.length = 0)
  else if w = Str.ofString "apart" then decide (ps.length = 2) && (nameD (ps.getD 0 .non) && (nameD (ps.getD 1 .non) && !decide (strD (ps.getD 0 .non) = strD (ps.getD 1 .non))))
  else if ps.length = 1 then
    if w = Str.ofString "count" ∨ w = Str.ofString "place" then nameD (ps.getD 0 .non)
    else if w = Str.ofString "first" then wiB 1 40 (intD (ps.getD 0 .non))
    else decide (w = Str.ofString "lot") && lotB (ps.getD 0 .non)
  else false
def qnD : Dat → Bool
  | .tup (.str w :: ps) => qnP w ps
  | _ => false
theorem strs_of {K : PySem.W.Frag} {H : Hp} : ∀ {xs : List V} {ks : List Dat}, Paired (DtAt K H) xs ks → ks.all nameD = true → xs = (ks.map strD).map V.str ∧ ∀ z ∈ ks.map strD, Nm z
  | _, _, .nil, _ => ⟨rfl, fun _ h => nomatch h⟩
  | _, k :: ks, .cons h t, c => by
    rw [List.all_cons, Bool.and_eq_true] at c
    obtain ⟨z, rfl, hz⟩ := nameD_is c.1
    obtain ⟨rfl, _⟩ := h.str
    obtain ⟨e, n⟩ := strs_of t c.2
    refine ⟨by rw [List.map_cons, List.map_cons, e]; rfl, fun y hy => ?_⟩
    rcases List.mem_cons.mp hy with rfl | hy
    · exact hz
    · exact n y hy
section
variable {P : Program} {w : World} {K : PySem.W.Frag} {mg : Str → Option Value} {base : Heap}
def spIsLotD (K : PySem.W.Frag) : Sp := fun vs H Q _ => ∃ (v : V) (d : Dat), vs = [v] ∧ DtAt K H v d ∧ ∀ H', Same H H' → Q (.bl (lotB d)) H'
theorem ok_is_lotD (T : Blt mg) (cL : Cst mg "LONGEST_NAME" (.int 8)) (cA : Cst mg "MOST_ASKED" (.int 40)) (n_zip : mg "zip" = none) (dP_is_name : DnIsName K mg) (d : DnIsLot K mg) : FnOk P w K mg base CX0 2 d.f d.fd ["thing"] (spIsLotD K) := by
  have GP_is_name : FnOk P w K mg base CX0 1 dP_is_name.f dP_is_name.fd ["thing"] (spIsNameD K) := ok_is_nameD T cL dP_is_name
  refine d.F.ok scP_is_lot (fun vs H Q E h => ?_) (fun cdv A outer s H vs Q E hr h => ?_)
  · obtain ⟨v, n, rfl, _⟩ := h
    rfl
  · obtain ⟨v, x, rfl, hx, q⟩ := h
    refine ⟨_, (pss_cons (ps_if (PW.pt (pw_or (pt_not (pt_val (pe_callB (call_isD (K := K) rfl) (by rfl) T.n_isinstance (by decide +kernel) (pa_cons (pv 0) (pa_cons (pe_bltn (v := .ty "tuple") (by rfl) T.n_tuple (by decide +kernel) rfl) pa_nil))))) (pw_or (pt_cmpR op_gt (pe_callB call_len_seq (by rfl) T.n_len (by decide +kernel) (pa_cons (pv 0) pa_nil)) (pe_glob rfl cA.g cA.r) (nomark _)) (pw_or1 (pt_not (pt_val (pe_callB (cr_all rfl) (by rfl) T.n_all (by decide +kernel) (pa_cons (pe_lc (own := [("name", 3)]) (g := gName 3) (tt := tYes) rfl scP_is_lot.nd (pi_tup (pv 0)) (blkOk_by (N := NP_is_lot) (sc := defScope sP_is_lot) (by decide +kernel)) (fun _ _ _ _ _ => pg_name (i := 3) scP_is_lot.nd rfl (Or.inl rfl)) (fun _ _ _ _ _ => pts_nil) (fun _ _ _ _ _ => (pe_call GP_is_name (hr.mono (by omega)) (by rfl) dP_is_name.g dP_is_name.F.kp dP_is_name.b .nil pass0 (pa_cons (pv 3) pa_nil)))) pa_nil))))))))
      (pss_one (ps_ret pe_bl))
      pss_nil)
    (pss_one (ps_ret (pe_callB (cr_all rfl) (by rfl) T.n_all (by decide +kernel) (pa_cons (pe_lc (own := [("one", 1), ("other", 2)]) (g := gTup K 2 (gCons (gName 1) (gCons (gName 2) gNil))) (tt := tYes) rfl scP_is_lot.nd (pi_zipA (by rfl) n_zip (pa_cons (pv 0) (pa_cons (pe_slice sl_tupP (pv 0) (po_some pe_int) po_none) pa_nil))) (blkOk_by (N := NP_is_lot) (sc := defScope sP_is_lot) (by decide +kernel)) (fun _ _ _ _ _ => pg_tup (by rfl) (pgs_cons (pg_name (i := 1) scP_is_lot.nd rfl (Or.inl rfl)) (pgs_cons (pg_name (i := 2) scP_is_lot.nd rfl (Or.inl rfl)) pgs_nil))) (fun _ _ _ _ _ => pts_nil) (fun _ _ _ _ _ => (pe_cmpR op_lt_str (pv 1) (pv 2) (nomark _)))) pa_nil))))), ?_⟩
    obtain ⟨t, ty, kI, kB, kS, kT⟩ := hx.ty
    refine ⟨v, rfl, v, _, t, _, isT x, rfl, .ty "tuple", ty, kT, isT x, rfl, ?_⟩
    cases x with
    | tup ds =>
      obtain ⟨a, xs, rfl, h1, h2, h3⟩ := hx.tup
      have hl := Paired.length h3
      have q : ∀ H', Same H H' → Q (.bl (decide (ds.length ≤ 40) && (ds.all nameD && chainR (ds.map strD)))) H' := q
      refine iteF ⟨.ref a, rfl, a, _, rfl, .inr h1.seq, _, _, rfl, rfl, ?_⟩
      by_cases h40 : ds.length ≤ 40
      · rw [decide_eq_true h40, Bool.true_and] at q
        refine ⟨false, congrArg V.bl (decide_eq_false (by omega)), iteF ⟨.ref a, rfl, a, rfl, ⟨_, h1.seq⟩, fun D nD => lc_tup (xs := xs) (fun i H3 => Same H H3 ∧ H3 D = some (.lst ((ds.take i).map fun d => V.bl (nameD d)))) ⟨same_upd nD, upd_same⟩ (fun i H3 _ h3 => (h1.same h3.1).seq) (fun i x H3 hx h4 => ?_) (fun H3 h4 => ?_)⟩⟩
        · obtain ⟨e, he, hat⟩ := paired_at h3 hx
          refine ⟨rfl, x, rfl, x, e, rfl, hat.same h4.1, fun H4 s4 => ⟨_, s4 _ _ h4.2, ?_, fun b o z => ?_, ?_⟩⟩
          · rw [List.length_map, List.length_take, sizeLine_eq]
            omega
          · rw [upd_ne (ne_of_none z nD)]
            exact s4 b o (h4.1 b o z)
          · rw [upd_same, List.take_add_one, he, List.map_append]
            rfl
        · refine ⟨D, ds.map nameD, rfl, sql (by rw [h4.2, hl, List.take_length, List.map_map]; rfl), (ds.map nameD).all id, rfl, ?_⟩
          rw [show (ds.map nameD).all id = ds.all nameD by rw [List.all_map]; rfl]
          cases hall : ds.all nameD with
          | false =>
            rw [hall, Bool.false_and] at q
            exact iteT (q H3 h4.1)
          | true =>
            rw [hall, Bool.true_and] at q
            obtain ⟨exs, hnm⟩ := strs_of h3 hall
            generalize hzs : ds.map strD = zs at exs hnm q
            have hzl : zs.length = xs.length := by rw [exs, List.length_map]
            subst exs
            refine iteF ⟨.ref a, rfl, .ref a, rfl, 1, rfl, a, _, rfl, h1.same h4.1, fun p H5 s5 hp => ?_⟩
            rw [show cutV (zs.map V.str) (some 1) none = (zs.map V.str).drop 1 from cut_rest (b := 1), ← List.map_drop] at hp
            have s05 := same_trans h4.1 s5
            refine ⟨a, p, _, _, rfl, .inr ⟨(h1.same s05).seq, hp.seq, fun D2 nD2 => ?_⟩⟩
            have nD20 := Same.gone s05 nD2
            refine lc_it (walk_zipT (K := K) (xs := zs.map V.str) (ys := (zs.drop 1).map V.str) rfl) (fun i H7 => Same H5 H7 ∧ H7 D2 = some (.lst ((List.range i).map fun k => V.bl (ltZ (zs.getD k (Str.ofString "")) (zs.getD (k + 1) (Str.ofString "")))))) ⟨same_upd nD2, upd_same⟩ (fun i H7 _ h7 => ⟨((h1.same s05).same h7.1).seq, (hp.same h7.1).seq⟩) (fun i v H7 H8 hi h7 y => ?_) (fun H7 h7 => ?_)
            · obtain ⟨s7, hD7⟩ := h7
              obtain ⟨TT, x1, x2, rfl, nT, rfl, hx1, hx2⟩ := y
              obtain ⟨z1, hz1, rfl⟩ := map_at hx1
              obtain ⟨z2, hz2, rfl⟩ := map_at hx2
              have hi1 := (List.getElem?_eq_some_iff.mp hz1).1
              rw [List.getElem?_drop] at hz2
              have DT : D2 ≠ TT := ne_of_none hD7 nT
              refine ⟨TT, _, rfl, .inl (.inl upd_same), rfl, _, _, rfl, _, _, rfl, rfl, rfl, .str z1, rfl, .str z2, rfl, z1, z2, rfl, rfl, ?_⟩
              have sT : Same H5 (upd H7 TT (.tup [.str z1, .str z2])) := Same.new s7 nT
              refine ⟨_, by rw [upd_ne DT]; exact hD7, by rw [List.length_map, List.length_range, sizeLine_eq]; rw [List.length_map] at hl; omega, Same.put sT nD2, ?_⟩
              rw [upd_same, List.range_succ, List.map_append]
              show some (HO.lst (_ ++ [V.bl (ltZ z1 z2)])) = some (HO.lst (_ ++ [V.bl (ltZ (zs.getD i (Str.ofString "")) (zs.getD (i + 1) (Str.ofString "")))]))
              rw [show zs.getD i (Str.ofString "") = z1 by rw [List.getD_eq_getElem?_getD, hz1]; rfl, show zs.getD (i + 1) (Str.ofString "") = z2 by rw [List.getD_eq_getElem?_getD, Nat.add_comm, hz2]; rfl]
            · obtain ⟨s7, hD7⟩ := h7
              refine ⟨D2, (List.range (min (zs.map V.str).length ((zs.drop 1).map V.str).length)).map fun k => ltZ (zs.getD k (Str.ofString "")) (zs.getD (k + 1) (Str.ofString "")), rfl, sql (by rw [hD7, List.map_map]; rfl), ?_⟩
              rw [show (((List.range (min (zs.map V.str).length ((zs.drop 1).map V.str).length)).map fun k => ltZ (zs.getD k (Str.ofString "")) (zs.getD (k + 1) (Str.ofString ""))).all id) = chainR zs by
                rw [List.all_map]
                unfold chainR
                rw [List.length_map, List.length_map, List.length_drop, show min zs.length (zs.length - 1) = zs.length - 1 by omega]
                rfl]
              exact q H7 (same_trans s05 s7)
      · rw [decide_eq_false h40, Bool.false_and] at q
        exact ⟨true, congrArg V.bl (decide_eq_true (by omega)), iteT (iteT (q H (Same.refl H)))⟩
    | _ => exact iteT (iteT (q H (Same.refl H)))
/-! is_question, of anything -/
def spIsQuestionD (K : PySem.W.Frag) : Sp := fun vs H Q _ => ∃ (v : V) (d : Dat), vs = [v] ∧ DtAt K H v d ∧ ∀ H', Same H H' → Q (.bl (qnD d)) H'
theorem ok_is_questionD (T : Blt mg) (cL : Cst mg "LONGEST_NAME" (.int 8)) (cA : Cst mg "MOST_ASKED" (.int 40)) (n_zip : mg "zip" = none) (dP_is_int : DnIsInt K mg) (dP_is_name : DnIsName K mg) (dP_is_lot : DnIsLot K mg) (d : DnIsQuestion K mg) : FnOk P w K mg base CX0 3 d.f d.fd ["thing"] (spIsQuestionD K) := by
  have GP_is_name : FnOk P w K mg base CX0 1 dP_is_name.f dP_is_name.fd ["thing"] (spIsNameD K) := ok_is_nameD T cL dP_is_name
  have GP_is_int : FnOk P w K mg base CX0 1 dP_is_int.f dP_is_int.fd ["thing"] (spIsIntD K) := ok_is_intD T dP_is_int
  have GP_is_lot : FnOk P w K mg base CX0 2 dP_is_lot.f dP_is_lot.fd ["thing"] (spIsLotD K) := ok_is_lotD T cL cA n_zip dP_is_name dP_is_lot
  refine d.F.ok scP_is_question (fun vs H Q E h => ?_) (fun cdv A outer s H vs Q E hr h => ?_)
  · obtain ⟨v, n, rfl, _⟩ := h
    rfl
  · obtain ⟨v, x, rfl, hx, q⟩ := h
    refine ⟨_, (pss_cons (ps_if (PW.pt (pw_or (pt_not (pt_val (pe_callB (call_isD (K := K) rfl) (by rfl) T.n_isinstance (by decide +kernel) (pa_cons (pv 0) (pa_cons (pe_bltn (v := .ty "tuple") (by rfl) T.n_tuple (by decide +kernel) rfl) pa_nil))))) (pw_or (pt_not (pt_truth (pv 0) (by intro _; rfl))) (pw_or1 (pt_not (pt_val (pe_callB (call_isD (K := K) rfl) (by rfl) T.n_isinstance (by decide +kernel) (pa_cons (pe_ix ix_tup (pv 0) pe_int (fun _ _ => rfl)) (pa_cons (pe_bltn (v := .ty "str") (by rfl) T.n_str (by decide +kernel) rfl) pa_nil)))))))))
      (pss_one (ps_ret pe_bl))
      pss_nil)
    (pss_cons (ps_set (i := 1) scP_is_question.nd rfl (Or.inl rfl) (pe_ix ix_tup (pv 0) pe_int (fun _ _ => rfl)))
    (pss_cons (ps_if (pt_cmpR op_in_seq (pv 1) (pe_tup (pa_cons pe_str (pa_cons pe_str pa_nil))) rfl)
      (pss_one (ps_ret (pe_cmpR op_eq (pe_callB call_len_seq (by rfl) T.n_len (by decide +kernel) (pa_cons (pv 0) pa_nil)) pe_int (nomark _))))
      pss_nil)
    (pss_cons (ps_if (pt_cmpR op_eq (pv 1) pe_str (nomark _))
      (pss_one (ps_ret (pe_and (pe_cmpR op_eq (pe_callB call_len_seq (by rfl) T.n_len (by decide +kernel) (pa_cons (pv 0) pa_nil)) pe_int (nomark _)) (pe_and (pe_call GP_is_name (hr.mono (by omega)) (by rfl) dP_is_name.g dP_is_name.F.kp dP_is_name.b .nil pass0 (pa_cons (pe_ix ix_tup (pv 0) pe_int (fun _ _ => rfl)) pa_nil)) (pe_and (pe_call GP_is_name (hr.mono (by omega)) (by rfl) dP_is_name.g dP_is_name.F.kp dP_is_name.b .nil pass0 (pa_cons (pe_ix ix_tup (pv 0) pe_int (fun _ _ => rfl)) pa_nil)) (pe_one (pe_cmpR op_ne (pe_ix ix_tup (pv 0) pe_int (fun _ _ => rfl)) (pe_ix ix_tup (pv 0) pe_int (fun _ _ => rfl)) (nomark _))))))))
      pss_nil)
    (pss_cons (ps_if (pt_cmpR op_ne (pe_callB call_len_seq (by rfl) T.n_len (by decide +kernel) (pa_cons (pv 0) pa_nil)) pe_int (nomark _))
      (pss_one (ps_ret pe_bl))
      pss_nil)
    (pss_cons (ps_if (pt_cmpR op_in_seq (pv 1) (pe_tup (pa_cons pe_str (pa_cons pe_str pa_nil))) rfl)
      (pss_one (ps_ret (pe_call GP_is_name (hr.mono (by omega)) (by rfl) dP_is_name.g dP_is_name.F.kp dP_is_name.b .nil pass0 (pa_cons (pe_ix ix_tup (pv 0) pe_int (fun _ _ => rfl)) pa_nil))))
      pss_nil)
    (pss_cons (ps_if (pt_cmpR op_eq (pv 1) pe_str (nomark _))
      (pss_one (ps_ret (pe_and (pe_call GP_is_int (hr.mono (by omega)) (by rfl) dP_is_int.g dP_is_int.F.kp dP_is_int.b .nil pass0 (pa_cons (pe_ix ix_tup (pv 0) pe_int (fun _ _ => rfl)) pa_nil)) (pe_one (pe_chain op_le op_le pe_int (pe_ix ix_tup (pv 0) pe_int (fun _ _ => rfl)) (pe_glob rfl cA.g cA.r))))))
      pss_nil)
    (pss_one (ps_ret (pe_and (pe_cmpR op_eq (pv 1) pe_str (nomark _)) (pe_one (pe_call GP_is_lot (hr.mono (by omega)) (by rfl) dP_is_lot.g dP_is_lot.F.kp dP_is_lot.b .nil pass0 (pa_cons (pe_ix ix_tup (pv 0) pe_int (fun _ _ => rfl)) pa_nil))))))))))))), ?_⟩
    obtain ⟨t, ty, kI, kB, kS, kT⟩ := hx.ty
    refine ⟨v, rfl, v, _, t, _, isT x, rfl, .ty "tuple", ty, kT, isT x, rfl, ?_⟩
    cases x with
    | tup ds =>
      obtain ⟨a, xs, rfl, h1, h2, h3⟩ := hx.tup
      cases h3 with
      | nil => exact iteF ⟨.ref a, rfl, false, .inr (.inl ⟨_, h1.seq, rfl⟩), iteT (iteT (q H (Same.refl H)))⟩
      | @cons x0 d0 xs ds e0 h3 =>
        refine iteF ⟨.ref a, rfl, true, .inr (.inl ⟨_, h1.seq, rfl⟩), iteF ?_⟩
        obtain ⟨t0, ty0, _, _, kS0, _⟩ := e0.ty
        refine ⟨.ref a, rfl, a, _, _, _, rfl, rfl, h1.seq, atI_nat (j := 0) rfl, x0, _, t0, _, isS d0, rfl, .ty "str", ty0, kS0, isS d0, rfl, ?_⟩
        cases d0 with
        | str wd =>
          obtain ⟨rfl, _⟩ := e0.str
          have hl := Paired.length h3
          have q : ∀ H', Same H H' → Q (.bl (qnP wd ds)) H' := q
          unfold qnP at q
          refine iteF ⟨.ref a, rfl, a, _, _, _, rfl, rfl, h1.seq, atI_nat (j := 0) rfl, ?_⟩
          refine ⟨.str wd, rfl, (by show 2 ≤ sizeLine; decide), fun t1 nt1 => ⟨t1, _, rfl, .inr (.inl (.inl upd_same)), rfl, rfl, decide (wd = Str.ofString "unlike" ∨ wd = Str.ofString "squares"), congrArg V.bl (inV2 _ _ _), ?_⟩⟩
          have s1 := same_upd (o := .tup [.str (Str.ofString "unlike"), .str (Str.ofString "squares")]) nt1
          generalize upd H t1 (.tup [.str (Str.ofString "unlike"), .str (Str.ofString "squares")]) = H1 at s1 ⊢
          have g1 := h1.same s1
          by_cases c1 : wd = Str.ofString "unlike" ∨ wd = Str.ofString "squares"
          · rw [if_pos c1] at q
            rw [decide_eq_true c1]
            refine iteT ⟨.ref a, rfl, a, _, rfl, .inr g1.seq, rfl, ?_⟩
            rw [dint, List.length_cons]
            have q1 := q H1 s1
            rw [show decide (((xs.length + 1 : Nat) : Int) = 1) = decide (ds.length = 0) by
              by_cases e : ds.length = 0
              · rw [decide_eq_true e, decide_eq_true (by omega)]
              · rw [decide_eq_false e, decide_eq_false (by omega)]]
            exact q1
          rw [if_neg c1] at q
          rw [decide_eq_false c1]
          refine iteF ⟨_, rfl, rfl, decide (wd = Str.ofString "apart"), congrArg V.bl (dstr _ _), ?_⟩
          by_cases c2 : wd = Str.ofString "apart"
          · rw [if_pos c2] at q
            rw [decide_eq_true c2]
            refine iteT ⟨.ref a, rfl, a, _, rfl, .inr g1.seq, rfl, ?_⟩
            rw [dint, List.length_cons]
            rw [show decide (((xs.length + 1 : Nat) : Int) = 3) = decide (ds.length = 2) by
              by_cases e : ds.length = 2
              · rw [decide_eq_true e, decide_eq_true (by omega)]
              · rw [decide_eq_false e, decide_eq_false (by omega)]]
            refine ⟨decide (ds.length = 2), rfl, ?_⟩
            by_cases e2 : ds.length = 2
            · rw [decide_eq_true e2, Bool.true_and] at q
              rw [decide_eq_true e2]
              obtain ⟨d1, d2, rfl⟩ : ∃ d1 d2, ds = [d1, d2] := match ds, e2 with | [d1, d2], _ => ⟨d1, d2, rfl⟩
              obtain ⟨x1, x2, rfl⟩ : ∃ x1 x2, xs = [x1, x2] := match xs, hl with | [x1, x2], _ => ⟨x1, x2, rfl⟩
              have f1 : DtAt K H x1 d1 := by cases h3 with | cons e _ => exact e
              have f2 : DtAt K H x2 d2 := by cases h3 with | cons _ h => cases h with | cons e _ => exact e
              have q : ∀ H', Same H H' → Q (.bl (nameD d1 && (nameD d2 && !decide (strD d1 = strD d2)))) H' := q
              refine iteT ⟨.ref a, rfl, a, _, _, _, rfl, rfl, g1.seq, atI_nat (j := 1) rfl, x1, d1, rfl, f1.same s1, fun H2 s2 => ⟨nameD d1, rfl, ?_⟩⟩
              have s02 := same_trans s1 s2
              cases n1 : nameD d1 with
              | false =>
                rw [n1, Bool.false_and] at q
                exact iteF (q H2 s02)
              | true =>
                rw [n1, Bool.true_and] at q
                refine iteT ⟨.ref a, rfl, a, _, _, _, rfl, rfl, (h1.same s02).seq, atI_nat (j := 2) rfl, x2, d2, rfl, f2.same s02, fun H3 s3 => ⟨nameD d2, rfl, ?_⟩⟩
                have s03 := same_trans s02 s3
                cases n2 : nameD d2 with
                | false =>
                  rw [n2, Bool.false_and] at q
                  exact iteF (q H3 s03)
                | true =>
                  rw [n2, Bool.true_and] at q
                  obtain ⟨z1, rfl, _⟩ := nameD_is n1
                  obtain ⟨z2, rfl, _⟩ := nameD_is n2
                  obtain ⟨rfl, _⟩ := f1.str
                  obtain ⟨rfl, _⟩ := f2.str
                  refine iteT ⟨.ref a, rfl, a, _, _, _, rfl, rfl, (h1.same s03).seq, atI_nat (j := 1) rfl, .ref a, rfl, a, _, _, _, rfl, rfl, (h1.same s03).seq, atI_nat (j := 2) rfl, rfl, ?_⟩
                  rw [dstr]
                  exact q H3 s03
            · rw [decide_eq_false e2, Bool.false_and] at q
              rw [decide_eq_false e2]
              exact iteF (q H1 s1)
          rw [if_neg c2] at q
          rw [decide_eq_false c2]
          refine iteF ⟨.ref a, rfl, a, _, rfl, .inr g1.seq, rfl, ?_⟩
          rw [dint, List.length_cons]
          by_cases e1 : ds.length = 1
          · rw [if_pos e1] at q
            refine ⟨false, by rw [decide_eq_true (by omega)]; rfl, iteF ?_⟩
            obtain ⟨d1, rfl⟩ : ∃ d1, ds = [d1] := match ds, e1 with | [d1], _ => ⟨d1, rfl⟩
            obtain ⟨x1, rfl⟩ : ∃ x1, xs = [x1] := match xs, hl with | [x1], _ => ⟨x1, rfl⟩
            have f1 : DtAt K H x1 d1 := by cases h3 with | cons e _ => exact e
            refine ⟨.str wd, rfl, (by show 2 ≤ sizeLine; decide), fun t2 nt2 => ⟨t2, _, rfl, .inr (.inl (.inl upd_same)), rfl, rfl, decide (wd = Str.ofString "count" ∨ wd = Str.ofString "place"), congrArg V.bl (inV2 _ _ _), ?_⟩⟩
            have s2 := same_trans s1 (same_upd (o := .tup [.str (Str.ofString "count"), .str (Str.ofString "place")]) nt2)
            generalize upd H1 t2 (.tup [.str (Str.ofString "count"), .str (Str.ofString "place")]) = H2 at s2 ⊢
            have g2 := h1.same s2
            by_cases c3 : wd = Str.ofString "count" ∨ wd = Str.ofString "place"
            · rw [if_pos c3] at q
              rw [decide_eq_true c3]
              exact iteT ⟨.ref a, rfl, a, _, _, _, rfl, rfl, g2.seq, atI_nat (j := 1) rfl, x1, d1, rfl, f1.same s2, fun H3 s3 => q H3 (same_trans s2 s3)⟩
            rw [if_neg c3] at q
            rw [decide_eq_false c3]
            refine iteF ⟨_, rfl, rfl, decide (wd = Str.ofString "first"), congrArg V.bl (dstr _ _), ?_⟩
            by_cases c4 : wd = Str.ofString "first"
            · rw [if_pos c4] at q
              rw [decide_eq_true c4]
              have q : ∀ H', Same H H' → Q (.bl (wiB 1 40 (intD d1))) H' := q
              refine iteT ⟨.ref a, rfl, a, _, _, _, rfl, rfl, g2.seq, atI_nat (j := 1) rfl, x1, d1, rfl, f1.same s2, (intD d1).isSome, rfl, ?_⟩
              cases d1 with
              | int i =>
                obtain ⟨rfl, _⟩ := f1.int
                have q : Q (.bl (decide (1 ≤ i) && decide (i ≤ 40))) H2 := q H2 s2
                refine iteT ⟨.ref a, rfl, a, _, _, _, rfl, rfl, g2.seq, atI_nat (j := 1) rfl, _, _, rfl, rfl, decide (1 ≤ i), rfl, ite2 (fun e => ⟨_, _, rfl, rfl, ?_⟩) (fun e => ?_)⟩
                · rw [e, Bool.true_and] at q
                  exact q
                · rw [show decide (1 ≤ i) = false from by simpa using e, Bool.false_and] at q
                  exact q
              | _ => exact iteF (q H2 s2)
            rw [if_neg c4] at q
            rw [decide_eq_false c4]
            refine iteF ⟨_, rfl, rfl, decide (wd = Str.ofString "lot"), congrArg V.bl (dstr _ _), ?_⟩
            by_cases c5 : wd = Str.ofString "lot"
            · rw [decide_eq_true c5, Bool.true_and] at q
              rw [decide_eq_true c5]
              exact iteT ⟨.ref a, rfl, a, _, _, _, rfl, rfl, g2.seq, atI_nat (j := 1) rfl, x1, d1, rfl, f1.same s2, fun H3 s3 => q H3 (same_trans s2 s3)⟩
            · rw [decide_eq_false c5, Bool.false_and] at q
              rw [decide_eq_false c5]
              exact iteF (q H2 s2)
          · rw [if_neg e1] at q
            exact ⟨true, by rw [decide_eq_false (by omega)]; rfl, iteT (q H1 s1)⟩
        | _ => exact iteT (q H (Same.refl H))
    | _ => exact iteT (iteT (q H (Same.refl H)))
end
end Kb

namespace L2
open PySem PySem.Spec PyProof.Rows SrtO SrtZ
section
variable {P : Program} {w : World} {A : Around} {E : Value → Shared → Prop} {s : Shared} {a : Addr}
theorem call_set_strsT {l : Addr} {items : Array Value} {xs : List Str} {Q : Value → Shared → Prop} (hA : A.handled = none) (hl : s.heap.IsTuple l items) (hx : StrsAre items.toList xs) (hn : xs.length + 1 < scanBound)
    (q : ∀ (h' : Heap) (tk m : Nat), m ≤ dcz xs xs.length → StrSet P w h' s.heap.objs.size (hasZ xs xs.length) m → (∀ b o, s.heap.get? b = some o → h'.get? b = some o) → Q (.ref s.heap.objs.size) { s with heap := h', toks := tk }) :
    wpAny (model P w) A (call (.type "set") [.ref l]) Q E s := by
  have T := F.called_set
  obtain ⟨c, tl, hm⟩ := T.mro
  refine wpAny_call (codeAny_of_tree (wpAny_pure ⟨Code.quiet_builtin _ (by decide +kernel), ?_⟩))
  refine codeAny_builtin F.entry_type_call ?_
  rw [Around.under_plain (weight_type_call_type "set" [.ref l] []) rfl]
  unfold Builtin.«type.__call__»
  dsimp only
  rw [if_neg (by rw [T.notType]; decide), if_neg (by rw [show _ = false from T.canCreate]; decide)]
  rw [F.typeCall_set_1]
  refine wpAny_bind (wpAny_pure ?_)
  refine wpAny_bind (wpAny_of_eq hm ?_)
  rw [if_neg (by simp)]
  refine wpAny_bind (wpAny_of_eq T.made ?_)
  dsimp only
  refine wpAny_bind (wpAny_pure ?_)
  refine wpAny_bind (wpAny_holding (wpAny_call ?_))
  refine codeAny_mono (code_set_led1 (E := E) (Q₁ := fun v s' => v = .ref s.heap.objs.size ∧ s' = { s with heap := s.heap.push { cls := .type "set", data := .set #[] 0 (SetTable.fresh 0 0 !w.params.followText "set-order") } }) (.ref l) ⟨rfl, rfl⟩) fun r s' h => ?_
  match r, h with
  | .ok (.ret v), h =>
    obtain ⟨rfl, rfl⟩ := h
    dsimp only
    generalize hob : ({ cls := .type "set", data := .set #[] 0 (SetTable.fresh 0 0 !w.params.followText "set-order") } : Obj) = ob
    have hnew : (s.heap.push ob).get? s.heap.objs.size = some ob := Heap.get?_push_size _ (by rw [← hob]; rfl)
    have hty : ({ s with heap := s.heap.push ob } : Shared).TypeIs (.ref s.heap.objs.size) "set" := ⟨ob, hnew, by rw [← hob]⟩
    refine wpAny_bind (wpAny_isInstance hty T.sub ?_)
    rw [if_neg (by decide)]
    refine wpAny_bind (wpAny_holding ?_)
    unfold callSpecial?
    refine wpAny_bind (wpAny_specialOf hty T.init.lookup ?_)
    dsimp only
    refine wpAny_holding (wpAny_bind (wpAny_of_eq (T.init.bind _) ?_))
    dsimp only
    refine wpAny_bind (call_set_init hty ?_)
    unfold Builtin.«set.__init__»
    dsimp only
    refine wpAny_bind ?_
    unfold noKeywords
    rw [if_pos (by rfl)]
    refine wpAny_pure ?_
    unfold typeNameOfCut
    refine wpAny_bind (wpAny_bind ?_)
    unfold shownTypeOf
    refine wpAny_bind (wpAny_typeOf hty ?_)
    rw [if_neg (by decide +kernel)]
    refine wpAny_pure ?_
    unfold typeNameCut
    dsimp only
    unfold typeName
    refine wpAny_pure ?_
    refine wpAny_bind (show wpAny _ _ (pure ()) _ _ _ from wpAny_pure ?_)
    refine wpAny_bind (show wpAny _ _ (pure _) _ _ _ from wpAny_pure ?_)
    unfold setUsed
    have hfr : (SetTable.fresh 0 0 !w.params.followText "set-order").fits (#[] : Array (Int × Value)).size = true := rfl
    have hdat : ob.data = .set #[] 0 (SetTable.fresh 0 0 !w.params.followText "set-order") := by rw [← hob]
    refine wpAny_bind (wpAny_bind (wpAny_setState_of hnew hdat hfr (wpAny_pure ?_)))
    rw [if_neg (by simp [SetTable.fresh, SetTable.fill])]
    refine wpAny_bind ?_
    unfold Builtin.Frozenset.updateFrom Builtin.Frozenset.isAnySet
    obtain ⟨lo, hlo, hlc, hlz, hld⟩ := id hl
    have htl : ({ s with heap := s.heap.push ob } : Shared).TypeIs (.ref l) "tuple" := ⟨lo, Heap.get?_push_of_some _ hlo, hlc⟩
    refine wpAny_bind ?_
    unfold orM
    refine wpAny_bind (wpAny_isInstance htl F.sub_tuple_set ?_)
    refine wpAny_isInstance htl F.sub_tuple_frozenset ?_
    rw [if_neg (by decide)]
    refine wpAny_bind (wpAny_typeOf htl ?_)
    rw [if_neg (by decide +kernel)]
    refine wpAny_bind (wpAny_pyIter_tuple (hl.push ob) ?_)
    refine wpAny_bind (wpAny_runValue ?_)
    have hnl : s.heap.objs.size ≠ l := fun z => absurd (Heap.lt_size hlo) (by rw [← z]; exact Nat.lt_irrefl _)
    have isz : (s.heap.push ob).objs.size = s.heap.objs.size + 1 := size_push' _ _
    have hlI : l ≠ (s.heap.push ob).objs.size := fun z => by
      have h0 := Heap.lt_size hlo
      rw [z, isz] at h0
      exact Nat.not_lt.mpr (Nat.le_succ _) h0
    have hA2 : (A.in1.in1.in1).handled = none := hA
    have wk := (Walks.tuple (prog := P) (w := w) hA2 (s.heap.push ob).objs.size l hlI items).toS
    have hlen : xs.length = items.size := by
      have := hx.len_eq
      simpa using this.symm
    have hfp : s.heap.objs.size ∉ [(s.heap.push ob).objs.size, l] := fun z => by
      rcases List.mem_cons.mp z with z | z
      · omega
      · exact hnl (List.mem_singleton.mp z)
    have st0 : StrSet P w ((s.heap.push ob).push { cls := .type "tuple_iterator", data := .fields #[.ref l, .int 0 0] }) s.heap.objs.size (hasZ xs 0) 0 := by
      refine ⟨#[], 0, _, ⟨⟨ob, Heap.get?_push_of_some _ hnew, ?_, hdat⟩, (fun e he => by simp at he), fun k => ?_, (by decide), hfr, rfl, List.Pairwise.nil, ?_⟩⟩
      · rw [← hob]
        exact ⟨rfl, rfl, rfl⟩
      · unfold hasZ
        simp
      · show _ ∨ (!w.params.followText "set-order") = true
        cases w.params.followText "set-order" <;> simp
    refine strS_loop wk s.heap.objs.size hfp xs hlen (by omega) (fun i v hv => ?_) items.size 0 _ rfl (Nat.zero_le _) ⟨⟨_, Heap.get?_push_size _ rfl, rfl, rfl⟩, (hl.push ob).push _⟩ ⟨0, Nat.le_refl _, st0⟩ fun s' mv hs => ?_
    · obtain ⟨t, ht⟩ := SS.strs_at hx i v (by simpa using hv)
      have hi : i < xs.length := by
        rw [hlen]
        exact (Array.getElem?_eq_some_iff.mp hv).1
      exact ⟨_, t, List.getElem?_eq_getElem hi, by rw [ht]; simp [List.getD, hi]⟩
    obtain ⟨m, hm, ss⟩ := hs
    rw [← hlen] at hm ss
    dsimp only
    refine wpAny_pure (wpAny_pure ⟨_, rfl, wpAny_pure ?_⟩)
    dsimp only
    rw [if_neg (by decide)]
    refine wpAny_pure ?_
    dsimp only
    obtain ⟨h', g', d', tk', os'⟩ := s'
    have e1 := mv.gens
    have e2 := mv.drawn
    have e3 := mv.os
    dsimp only at e1 e2 e3 ss ⊢
    subst e1 e2 e3
    refine q h' tk' m hm ss fun b o e => mv.heap b o (fun z => ?_) (Heap.get?_push_of_some _ (Heap.get?_push_of_some _ e))
    have hb := Heap.lt_size e
    rcases List.mem_cons.mp z with z | z
    · rw [z] at hb
      exact absurd hb (Nat.lt_irrefl _)
    · rw [List.mem_singleton.mp z, isz] at hb
      exact Nat.not_lt.mpr (Nat.le_succ _) hb
  | .error e, h => exact h
end
section
variable {X : Cx}
/-- set(xs), xs a tuple of texts -/
def rSetTS (K : PySem.W.Frag) (P : Program) (w : World) : List V → Hp → VK → Prop := fun xs H Q => ∃ (l : Addr) (zs : List Str), xs = [V.ref l] ∧ SqT K H l (zs.map V.str) ∧ zs.length ≤ 1000 ∧ ∀ (p : Addr) (n : Nat), H p = none → n ≤ dcz zs zs.length → Q (.ref p) (upd H p (SetS P w p (hasZ zs zs.length) n))
theorem cr_setTS (hc : X.calm = true) : CallR X (.type "set") (rSetTS X.K X.prog X.w) := by
  intro pins s σ H xs us Q I r h
  obtain ⟨l, zs, rfl, hS, hz, q⟩ := h
  obtain rfl := Vals.ref1 r
  obtain ⟨its, r', pl, hz'⟩ := I.tuple hS
  have h1 := strs_of_vals r'
  refine call_set_strsT (items := its.toArray) (xs := zs) (I.ok.hd hc) pl (by simpa using h1) (by show zs.length + 1 < 4096; omega) fun h' tk m hm ss kp => ?_
  have hf : H s.heap.objs.size = none := I.hok.fresh (Nat.le_refl _)
  exact ⟨.ref s.heap.objs.size, _, I.laid (t' := tk) kp (Nat.le_refl _) (setS_ok ss), rfl, q _ m hf hm⟩
end
end L2

namespace Kb
open PySem PySem.Spec PyProof.Rows L2 SrtZ SrtO RZ
abbrev sis_int : Stmt := topS 22
abbrev Nis_int : List Str := ["_law_thing", "_law_least", "_law_most"]
theorem scis_int : FnScope ["_law_thing", "_law_least", "_law_most"] ["_law_thing", "_law_least", "_law_most"] (defScope sis_int) := ⟨rfl, rfl, rfl, by decide +kernel, rfl, by decide +kernel, by decide +kernel⟩
abbrev Dnis_int (K : PySem.W.Frag) (mg : Str → Option Value) := Dn K mg "_law_is_int" sis_int ["_law_thing", "_law_least", "_law_most"]
abbrev sis_name : Stmt := topS 27
abbrev Nis_name : List Str := ["_law_thing", "_law_letters", "_law_sign"]
theorem scis_name : FnScope ["_law_thing", "_law_letters", "_law_sign"] ["_law_thing"] (defScope sis_name) := ⟨rfl, rfl, rfl, by decide +kernel, rfl, by decide +kernel, by decide +kernel⟩
abbrev Dnis_name (K : PySem.W.Frag) (mg : Str → Option Value) := Dn K mg "_law_is_name" sis_name ["_law_thing"]
abbrev sis_question : Stmt := topS 31
abbrev Nis_question : List Str := ["_law_thing", "_law_parts", "_law_due", "_law_name"]
theorem scis_question : FnScope ["_law_thing", "_law_parts", "_law_due", "_law_name"] ["_law_thing"] (defScope sis_question) := ⟨rfl, rfl, rfl, by decide +kernel, rfl, by decide +kernel, by decide +kernel⟩
abbrev Dnis_question (K : PySem.W.Frag) (mg : Str → Option Value) := Dn K mg "_law_is_question" sis_question ["_law_thing"]
theorem strOk_nm {z : Str} (h : Nm z) : PyData.strOk z = true := by
  unfold PyData.strOk
  refine Array.all_eq_true_iff_forall_mem.mpr fun c hc => ?_
  have := h.abc c (Array.mem_toList_iff.mpr hc)
  unfold nmC at this
  have h2 : (!decide (122 < c)) = true := by
    cases hx : (!decide (122 < c)) with
    | true => rfl
    | false => rw [hx] at this; simp at this
  have h3 : ¬ 122 < c := by simpa using h2
  exact decide_eq_true (by omega)
theorem lay_strs : ∀ {zs : List Str}, (∀ z ∈ zs, Nm z) → PyData.canLayAll0 (zs.map PyData.str) = true ∧ PyData.depthAll (zs.map PyData.str) = 0
  | [], _ => ⟨rfl, rfl⟩
  | z :: zs, h => by
    obtain ⟨h1, h2⟩ := lay_strs (zs := zs) fun y hy => h y (List.mem_cons_of_mem _ hy)
    constructor
    · show (PyData.strOk z && PyData.canLayAll0 (zs.map PyData.str)) = true
      rw [strOk_nm (h z List.mem_cons_self), h1]
      rfl
    · show max 0 (PyData.depthAll (zs.map PyData.str)) = 0
      rw [h2]
      rfl
theorem dp_strs {K : PySem.W.Frag} {H : Hp} : ∀ zs : List Str, DpAll K H (zs.map V.str) (zs.map PyData.str)
  | [] => .nil
  | z :: zs => .cons (.str z) (dp_strs zs)
theorem eqv_strs : ∀ a b : List Str, PyData.eqvAll (a.map PyData.str) (b.map PyData.str) = true ↔ a = b
  | [], [] => ⟨fun _ => rfl, fun _ => rfl⟩
  | [], y :: b => ⟨fun h => (nomatch h), fun h => (nomatch h)⟩
  | x :: a, [] => ⟨fun h => (nomatch h), fun h => (nomatch h)⟩
  | x :: a, y :: b => by
    show ((x == y) && PyData.eqvAll (a.map PyData.str) (b.map PyData.str)) = true ↔ _
    rw [Bool.and_eq_true, eqv_strs a b, beq_iff_eq]
    constructor
    · rintro ⟨rfl, rfl⟩
      rfl
    · intro h
      injection h with h1 h2
      exact ⟨h1, h2⟩
/-- the names sorted, each once: the names themselves only if they ascend -/
theorem names_asc {L S : List Str} (so : Srtd ltZ S) (nd : S.Nodup) (hm : ∀ z, z ∈ S ↔ z ∈ L) : L = S ↔ L.Pairwise fun a b => ltZ a b = true := by
  have sS : S.Pairwise fun a b => ltZ a b = true := by
    refine List.Pairwise.imp₂ (fun {a b} h1 h2 => ?_) so nd
    rcases bcase (ltZ a b) with q | q
    · exact q
    · exact absurd (ltZ_tri q h1) h2
  constructor
  · rintro rfl
    exact sS
  · intro h
    have ndL : L.Nodup := by
      refine List.Pairwise.imp (fun {a b} h e => ?_) h
      rw [e, ltZ_irr] at h
      cases h
    have p : L.Perm S := (List.perm_ext_iff_of_nodup ndL nd).mpr fun z => (hm z).symm
    exact List.Perm.eq_of_pairwise (le := fun (a b : Str) => ltZ a b = true) (fun a b _ _ h1 h2 => by
      have := ltZ_asym h1
      rw [this] at h2
      cases h2) h sS p
theorem chainR_pw : ∀ zs : List Str, chainR zs = true ↔ zs.Pairwise fun a b => ltZ a b = true
  | [] => ⟨fun _ => .nil, fun _ => rfl⟩
  | [a] => ⟨fun _ => List.pairwise_singleton _ _, fun _ => rfl⟩
  | a :: b :: r => by
    rw [chainR_cons, Bool.and_eq_true, chainR_pw (b :: r), List.pairwise_cons (a := a)]
    constructor
    · rintro ⟨h, t⟩
      refine ⟨fun z hz => ?_, t⟩
      rcases List.mem_cons.mp hz with rfl | hz
      · exact h
      · exact ltZ_trans h ((List.pairwise_cons.mp t).1 z hz)
    · rintro ⟨h, t⟩
      exact ⟨h b List.mem_cons_self, t⟩
theorem asc_eq {L S : List Str} (so : Srtd ltZ S) (nd : S.Nodup) (hm : ∀ z, z ∈ S ↔ z ∈ L) : PyData.eqvAll (L.map PyData.str) (S.map PyData.str) = chainR L := by
  rw [Bool.eq_iff_iff, eqv_strs, names_asc so nd hm, chainR_pw]
theorem len_two {a b : Str} {S : List Str} (nd : S.Nodup) (hm : ∀ z, z ∈ S ↔ z ∈ [a, b]) : S.length = 2 ↔ a ≠ b := by
  by_cases h : a = b
  · subst h
    have p : S.Perm [a] := (List.perm_ext_iff_of_nodup nd (List.nodup_cons.mpr ⟨List.not_mem_nil, List.nodup_nil⟩)).mpr fun z => by rw [hm z]; simp
    have e : S.length = 1 := p.length_eq
    exact ⟨fun z => by omega, fun z => absurd rfl z⟩
  · have p : S.Perm [a, b] := (List.perm_ext_iff_of_nodup nd (by simp [h])).mpr hm
    have e : S.length = 2 := p.length_eq
    exact ⟨fun _ => h, fun _ => e⟩
theorem len_one {a : Str} {S : List Str} (nd : S.Nodup) (hm : ∀ z, z ∈ S ↔ z ∈ [a]) : S.length = 1 := by
  have p : S.Perm [a] := (List.perm_ext_iff_of_nodup nd (List.nodup_cons.mpr ⟨List.not_mem_nil, List.nodup_nil⟩)).mpr hm
  exact p.length_eq
theorem len_nil {S : List Str} (hm : ∀ z, z ∈ S ↔ z ∈ ([] : List Str)) : S.length = 0 := by
  cases S with
  | nil => rfl
  | cons a r => cases (hm a).mp List.mem_cons_self
/-- how many parts a question of this word has, names all -/
def dueI (w : Str) : Int := if w = Str.ofString "count" ∨ w = Str.ofString "place" then 1 else if w = Str.ofString "apart" then 2 else if w = Str.ofString "unlike" ∨ w = Str.ofString "squares" then 0 else -1
def dueL : List (Key × V) := [(.inr (Str.ofString "count"), .int 1), (.inr (Str.ofString "place"), .int 1), (.inr (Str.ofString "apart"), .int 2), (.inr (Str.ofString "unlike"), .int 0), (.inr (Str.ofString "squares"), .int 0)]
theorem due_merge : mergeK [] dueL = dueL := by kernel_rfl
theorem due_get (w : Str) : (valV dueL (.inr w)).getD (.int (-1)) = .int (dueI w) := by
  have ne : ∀ {a : Str}, ¬ w = a → ¬ (Sum.inr a : Key) = .inr w := fun h z => h (by injection z with z; exact z.symm)
  unfold dueI dueL
  by_cases h1 : w = Str.ofString "count"
  · rw [if_pos (Or.inl h1), valV_pos (by rw [h1])]
    rfl
  rw [valV_neg (ne h1)]
  by_cases h2 : w = Str.ofString "place"
  · rw [if_pos (Or.inr h2), valV_pos (by rw [h2])]
    rfl
  rw [valV_neg (ne h2), if_neg (fun z => z.elim h1 h2)]
  by_cases h3 : w = Str.ofString "apart"
  · rw [if_pos h3, valV_pos (by rw [h3])]
    rfl
  rw [valV_neg (ne h3), if_neg h3]
  by_cases h4 : w = Str.ofString "unlike"
  · rw [if_pos (Or.inl h4), valV_pos (by rw [h4])]
    rfl
  rw [valV_neg (ne h4)]
  by_cases h5 : w = Str.ofString "squares"
  · rw [if_pos (Or.inr h5), valV_pos (by rw [h5])]
    rfl
  rw [valV_neg (ne h5), if_neg (fun z => z.elim h4 h5)]
  rfl
/-- the law's own look at a question that is neither first nor lot -/
theorem qnP_due {w : Str} (h1 : ¬ w = Str.ofString "first") (h2 : ¬ w = Str.ofString "lot") (ps : List Dat) :
    qnP w ps = (decide ((ps.length : Int) = dueI w) && (ps.all nameD && decide (dueI w = 2 → strD (ps.getD 0 .non) ≠ strD (ps.getD 1 .non)))) := by
  unfold qnP dueI
  by_cases c1 : w = Str.ofString "unlike" ∨ w = Str.ofString "squares"
  · have n1 : ¬ (w = Str.ofString "count" ∨ w = Str.ofString "place") := fun z => by rcases c1 with rfl | rfl <;> rcases z with z | z <;> exact absurd z (by decide +kernel)
    have n2 : ¬ w = Str.ofString "apart" := fun z => by rcases c1 with rfl | rfl <;> exact absurd z (by decide +kernel)
    rw [if_pos c1, if_neg n1, if_neg n2, if_pos c1]
    cases ps with
    | nil => rfl
    | cons p r =>
      rw [decide_eq_false (show ¬ (((p :: r).length : Nat) : Int) = 0 by rw [List.length_cons]; omega), decide_eq_false (show ¬ (p :: r).length = 0 by rw [List.length_cons]; omega)]
      rfl
  rw [if_neg c1]
  by_cases c2 : w = Str.ofString "apart"
  · have n1 : ¬ (w = Str.ofString "count" ∨ w = Str.ofString "place") := fun z => by subst c2; rcases z with z | z <;> exact absurd z (by decide +kernel)
    rw [if_pos c2, if_neg n1, if_pos c2]
    by_cases hl : ps.length = 2
    · obtain ⟨p, r, rfl⟩ : ∃ p r, ps = [p, r] := match ps, hl with | [p, r], _ => ⟨p, r, rfl⟩
      show (nameD p && (nameD r && !decide (strD p = strD r))) = ((nameD p && (nameD r && true)) && decide ((2 : Int) = 2 → strD p ≠ strD r))
      rw [Bool.and_true, Bool.and_assoc]
      congr 2
      by_cases e : strD p = strD r
      · rw [decide_eq_true e, decide_eq_false (fun z => z rfl e)]
        rfl
      · rw [decide_eq_false e, decide_eq_true (fun _ => e)]
        rfl
    · rw [decide_eq_false hl, decide_eq_false (show ¬ (ps.length : Int) = 2 by omega), Bool.false_and, Bool.false_and]
  rw [if_neg c2]
  by_cases c3 : w = Str.ofString "count" ∨ w = Str.ofString "place"
  · rw [if_pos c3, if_pos c3]
    by_cases hl : ps.length = 1
    · obtain ⟨p, rfl⟩ : ∃ p, ps = [p] := match ps, hl with | [p], _ => ⟨p, rfl⟩
      show nameD p = ((nameD p && true) && true)
      rw [Bool.and_true, Bool.and_true]
    · rw [if_neg hl, decide_eq_false (show ¬ (ps.length : Int) = 1 by omega), Bool.false_and]
  rw [if_neg c3, if_neg c3, if_neg c2, if_neg c1, decide_eq_false h2, if_neg h1, Bool.false_and, ite_self, decide_eq_false (show ¬ (ps.length : Int) = -1 by omega), Bool.false_and]
theorem qnP_first {w : Str} (h : w = Str.ofString "first") (ps : List Dat) : qnP w ps = (decide (ps.length = 1) && wiB 1 40 (intD (ps.getD 0 .non))) := by
  subst h
  unfold qnP
  rw [if_neg (by decide +kernel), if_neg (by decide +kernel)]
  by_cases hl : ps.length = 1
  · rw [if_pos hl, if_neg (by decide +kernel), if_pos rfl, decide_eq_true hl, Bool.true_and]
  · rw [if_neg hl, decide_eq_false hl, Bool.false_and]
theorem qnP_lot {w : Str} (h : w = Str.ofString "lot") (ps : List Dat) : qnP w ps = (decide (ps.length = 1) && lotB (ps.getD 0 .non)) := by
  subst h
  unfold qnP
  rw [if_neg (by decide +kernel), if_neg (by decide +kernel)]
  by_cases hl : ps.length = 1
  · rw [if_pos hl, if_neg (by decide +kernel), if_neg (by decide +kernel), decide_eq_true rfl, decide_eq_true hl, Bool.true_and]
  · rw [if_neg hl, decide_eq_false hl, Bool.false_and]
theorem dueI_le (w : Str) : dueI w ≤ 2 := by
  unfold dueI
  repeat (first | split | omega)
theorem due_len {w : Str} {ds : List Dat} {S : List Str} (hd : (ds.length : Int) = dueI w) (nd : S.Nodup) (hm : ∀ z, z ∈ S ↔ z ∈ ds.map strD) :
    decide (V.int (((S.map V.str).length : Nat) : Int) = V.int (dueI w)) = decide (dueI w = 2 → strD (ds.getD 0 .non) ≠ strD (ds.getD 1 .non)) := by
  have hle := dueI_le w
  rw [dint, ← hd, List.length_map]
  match ds, hd, hm with
  | [], _, hm => rw [len_nil hm]; rfl
  | [a], _, hm => rw [len_one nd hm]; rfl
  | [a, b], _, hm =>
    have h2 := len_two nd hm
    show decide ((S.length : Int) = 2) = decide ((2 : Int) = 2 → strD a ≠ strD b)
    by_cases e : strD a = strD b
    · have : ¬ S.length = 2 := fun z => h2.mp z e
      rw [show decide ((2 : Int) = 2 → strD a ≠ strD b) = false from decide_eq_false (fun z => z rfl e)]
      exact decide_eq_false (by omega)
    · have := h2.mpr e
      rw [show decide ((2 : Int) = 2 → strD a ≠ strD b) = true from decide_eq_true (fun _ => e)]
      exact decide_eq_true (by omega)
  | _ :: _ :: _ :: r, hd, _ => exfalso; simp only [List.length_cons] at hd; omega
theorem dlen {n m : Nat} : decide (V.int (n : Int) = V.int (m : Int)) = decide (n = m) := by
  rw [dint]
  by_cases h : n = m
  · rw [decide_eq_true h]
    exact decide_eq_true (by omega)
  · rw [decide_eq_false h]
    exact decide_eq_false (by omega)
section
variable {P : Program} {w : World} {K : PySem.W.Frag} {mg : Str → Option Value} {base : Heap}
def spIsIntL (K : PySem.W.Frag) : Sp := fun vs H Q _ => ∃ (v : V) (d : Dat) (lo hi : Int), vs = [v, .int lo, .int hi] ∧ DtAt K H v d ∧ Q (.bl (wiB lo hi (intD d))) H
theorem ok_is_intL (T : Blt mg) (d : Dnis_int K mg) : FnOk P w K mg base CX0 1 d.f d.fd ["_law_thing", "_law_least", "_law_most"] (spIsIntL K) := by
  refine d.F.ok scis_int (fun vs H Q E h => ?_) (fun cdv A outer s H vs Q E hr h => ?_)
  · obtain ⟨v, n, lo, hi, rfl, _⟩ := h
    rfl
  · obtain ⟨v, x, lo, hi, rfl, hx, q⟩ := h
    refine ⟨_, (pss_one (ps_ret (pe_and (pe_callB (call_isD (K := K) rfl) (by rfl) T.n_isinstance (by decide +kernel) (pa_cons (pv 0) (pa_cons (pe_bltn (v := .ty "int") (by rfl) T.n_int (by decide +kernel) rfl) pa_nil))) (pe_and (pe_not (pe_callB (call_isD (K := K) rfl) (by rfl) T.n_isinstance (by decide +kernel) (pa_cons (pv 0) (pa_cons (pe_bltn (v := .ty "bool") (by rfl) T.n_bool (by decide +kernel) rfl) pa_nil)))) (pe_one (pe_chain op_le op_le (pv 1) (pv 0) (pv 2))))))), ?_⟩
    obtain ⟨t, ty, kI, kB, kS, kT⟩ := hx.ty
    refine ⟨v, rfl, v, _, t, _, isI x, rfl, .ty "int", ty, kI, isI x, rfl, ?_⟩
    cases x with
    | int i =>
      obtain ⟨rfl, _⟩ := hx.int
      have q : Q (.bl (decide (lo ≤ i) && decide (i ≤ hi))) H := q
      refine iteT ⟨_, rfl, _, _, t, _, false, rfl, .ty "bool", ty, kB, false, rfl, true, rfl, iteT ⟨.int lo, rfl, .int i, rfl, _, _, rfl, rfl, decide (lo ≤ i), rfl, ite2 (fun e => ⟨.int hi, rfl, _, _, rfl, rfl, ?_⟩) (fun e => ?_)⟩⟩
      · rw [e, Bool.true_and] at q
        exact q
      · rw [show decide (lo ≤ i) = false from by simpa using e, Bool.false_and] at q
        exact q
    | bl b => exact iteT ⟨_, rfl, _, _, t, _, true, rfl, .ty "bool", ty, kB, true, rfl, false, rfl, iteF q⟩
    | _ => exact iteF q
/-! is_name -/
theorem ok_is_nameL (T : Blt mg) (d : Dnis_name K mg) : FnOk P w K mg base CX0 1 d.f d.fd ["_law_thing"] (spIsNameD K) := by
  refine d.F.ok scis_name (fun vs H Q E h => ?_) (fun cdv A outer s H vs Q E hr h => ?_)
  · obtain ⟨v, n, rfl, _⟩ := h
    rfl
  · obtain ⟨v, x, rfl, hx, q⟩ := h
    refine ⟨_, (pss_cons (ps_asg pe_str (pg_name (i := 1) scis_name.nd rfl (Or.inr rfl)))
    (pss_one (ps_ret (pe_and (pe_callB (call_isD (K := K) rfl) (by rfl) T.n_isinstance (by decide +kernel) (pa_cons (pv 0) (pa_cons (pe_bltn (v := .ty "str") (by rfl) T.n_str (by decide +kernel) rfl) pa_nil))) (pe_and (pe_chain op_le op_le pe_int (pe_callB call_len_str (by rfl) T.n_len (by decide +kernel) (pa_cons (pv 0) pa_nil)) pe_int) (pe_one (pe_callB (cr_all rfl) (by rfl) T.n_all (by decide +kernel) (pa_cons (pe_lc (own := [("_law_sign", 2)]) (g := gName 2) (tt := tYes) rfl scis_name.nd (pi_str (pv 0)) (blkOk_by (N := Nis_name) (sc := defScope sis_name) (by decide +kernel)) (fun _ _ _ _ _ => pg_name (i := 2) scis_name.nd rfl (Or.inl rfl)) (fun _ _ _ _ _ => pts_nil) (fun _ _ _ _ _ => (pe_cmpR op_in_sign (pv 2) (pv 1) rfl))) pa_nil)))))))), ?_⟩
    obtain ⟨t, ty, kI, kB, kS, kT⟩ := hx.ty
    refine ⟨v, rfl, v, _, t, _, isS x, rfl, .ty "str", ty, kS, isS x, rfl, ?_⟩
    cases x with
    | str z =>
      obtain ⟨rfl, hz⟩ := hx.str
      have q : ∀ H', Same H H' → Q (.bl (decide (1 ≤ z.length) && (decide (z.length ≤ 8) && (cs z).all nmC))) H' := q
      refine iteT ⟨.str z, rfl, z, rfl, (by rw [sizeLine_eq]; omega), _, _, rfl, rfl, ?_⟩
      by_cases h1 : 1 ≤ z.length
      · rw [decide_eq_true h1, Bool.true_and] at q
        refine ⟨true, congrArg V.bl (decide_eq_true (by omega)), iteT ⟨_, _, rfl, rfl, ?_⟩⟩
        by_cases h8 : z.length ≤ 8
        · rw [decide_eq_true h8, Bool.true_and] at q
          refine ⟨true, congrArg V.bl (decide_eq_true (by omega)), iteT ⟨.str z, rfl, z, rfl, fun D nD => ?_⟩⟩
          refine lc_it walk_str (fun i H3 => Same H H3 ∧ H3 D = some (.lst (((cs z).take i).map fun c => V.bl (nmC c)))) ⟨same_upd nD, upd_same⟩ (fun _ _ _ _ => trivial) (fun i x H3 H4 hi h3 y => ?_) (fun H3 h3 => ?_)
          · obtain ⟨rfl, c, hc, rfl⟩ := y
            have hc2 : (cs z)[i]? = some c := by
              rw [← hc]
              simp [cs]
            refine ⟨rfl, .str ⟨#[c]⟩, rfl, .str (Str.ofString "abcdefghijklmnopqrstuvwxyz"), rfl, c, _, rfl, rfl, ?_⟩
            rw [abc_mem]
            refine ⟨_, h3.2, ?_, fun b o e => ?_, ?_⟩
            · rw [List.length_map, List.length_take, sizeLine_eq]
              have := cs_len z
              omega
            · rw [upd_ne (ne_of_none e nD)]
              exact h3.1 b o e
            · rw [upd_same, List.take_add_one, hc2, List.map_append]
              rfl
          · refine ⟨D, (cs z).map nmC, rfl, sql ?_, ?_⟩
            · rw [h3.2, List.map_map]
              rw [List.take_of_length_le (by
                show (cs z).length ≤ z.cps.size
                simp [cs])]
              rfl
            · rw [show ((cs z).map nmC).all id = (cs z).all nmC by rw [List.all_map]; rfl]
              exact q H3 h3.1
        · rw [decide_eq_false h8, Bool.false_and] at q
          exact ⟨false, congrArg V.bl (decide_eq_false (by omega)), iteF (q H (Same.refl H))⟩
      · rw [decide_eq_false h1, Bool.false_and] at q
        exact ⟨false, congrArg V.bl (decide_eq_false (by omega)), iteF ⟨false, rfl, iteF (q H (Same.refl H))⟩⟩
    | _ => exact iteF (q H (Same.refl H))
/-- whether all of a tuple are names, by a judge -/
theorem strs_lay {ks : List Dat} (h : ∀ z ∈ ks.map strD, Nm z) : PyData.canLayAll0 ((ks.map strD).map PyData.str) = true ∧ PyData.depthAll ((ks.map strD).map PyData.str) = 0 := lay_strs h
/-! is_question -/
theorem ok_is_questionL (T : Blt mg) (n_set : mg "set" = none) (dis_int : Dnis_int K mg) (dis_name : Dnis_name K mg) (d : Dnis_question K mg) : FnOk P w K mg base CX0 2 d.f d.fd ["_law_thing"] (spIsQuestionD K) := by
  have Gis_int : FnOk P w K mg base CX0 1 dis_int.f dis_int.fd ["_law_thing", "_law_least", "_law_most"] (spIsIntL K) := ok_is_intL T dis_int
  have Gis_name : FnOk P w K mg base CX0 1 dis_name.f dis_name.fd ["_law_thing"] (spIsNameD K) := ok_is_nameL T dis_name
  refine d.F.ok scis_question (fun vs H Q E h => ?_) (fun cdv A outer s H vs Q E hr h => ?_)
  · obtain ⟨v, n, rfl, _⟩ := h
    rfl
  · obtain ⟨v, x, rfl, hx, q⟩ := h
    have hu := hu_of hr
    refine ⟨_, (pss_cons (ps_if (PW.pt (pw_or (pt_not (pt_val (pe_callB (call_isD (K := K) rfl) (by rfl) T.n_isinstance (by decide +kernel) (pa_cons (pv 0) (pa_cons (pe_bltn (v := .ty "tuple") (by rfl) T.n_tuple (by decide +kernel) rfl) pa_nil))))) (pw_or (pt_cmpR op_eq (pe_callB call_len_seq (by rfl) T.n_len (by decide +kernel) (pa_cons (pv 0) pa_nil)) pe_int (nomark _)) (pw_or1 (pt_not (pt_val (pe_callB (call_isD (K := K) rfl) (by rfl) T.n_isinstance (by decide +kernel) (pa_cons (pe_ix ix_tup (pv 0) pe_int (fun _ _ => rfl)) (pa_cons (pe_bltn (v := .ty "str") (by rfl) T.n_str (by decide +kernel) rfl) pa_nil)))))))))
      (pss_one (ps_ret pe_bl))
      pss_nil)
    (pss_cons (ps_set (i := 1) scis_question.nd rfl (Or.inl rfl) (pe_slice sl_tupP (pv 0) (po_some pe_int) po_none))
    (pss_cons (ps_if (pt_cmpR op_eq (pe_ix ix_tup (pv 0) pe_int (fun _ _ => rfl)) pe_str (nomark _))
      (pss_one (ps_ret (pe_and (pe_cmpR op_eq (pe_callB call_len_seq (by rfl) T.n_len (by decide +kernel) (pa_cons (pv 1) pa_nil)) pe_int (nomark _)) (pe_one (pe_call Gis_int (hr.mono (by omega)) (by rfl) dis_int.g dis_int.F.kp dis_int.b .nil pass0 (pa_cons (pe_ix ix_tup (pv 1) pe_int (fun _ _ => rfl)) (pa_cons pe_int (pa_cons pe_int pa_nil))))))))
      pss_nil)
    (pss_cons (ps_if (pt_cmpR op_eq (pe_ix ix_tup (pv 0) pe_int (fun _ _ => rfl)) pe_str (nomark _))
      (pss_cons (ps_if (PW.pt (pw_or (pt_cmpR op_ne (pe_callB call_len_seq (by rfl) T.n_len (by decide +kernel) (pa_cons (pv 1) pa_nil)) pe_int (nomark _)) (pw_or (pt_not (pt_val (pe_callB (call_isD (K := K) rfl) (by rfl) T.n_isinstance (by decide +kernel) (pa_cons (pe_ix ix_tup (pv 1) pe_int (fun _ _ => rfl)) (pa_cons (pe_bltn (v := .ty "tuple") (by rfl) T.n_tuple (by decide +kernel) rfl) pa_nil))))) (pw_or1 (pt_cmpR op_gt (pe_callB call_len_seq (by rfl) T.n_len (by decide +kernel) (pa_cons (pe_ix ix_tup (pv 1) pe_int (fun _ _ => rfl)) pa_nil)) pe_int (nomark _))))))
        (pss_one (ps_ret pe_bl))
        pss_nil)
      (pss_one (ps_ret (pe_and (pe_callB (cr_all rfl) (by rfl) T.n_all (by decide +kernel) (pa_cons (pe_lc (own := [("_law_name", 3)]) (g := gName 3) (tt := tYes) rfl scis_question.nd (pi_tup (pe_ix ix_tup (pv 1) pe_int (fun _ _ => rfl))) (blkOk_by (N := Nis_question) (sc := defScope sis_question) (by decide +kernel)) (fun _ _ _ _ _ => pg_name (i := 3) scis_question.nd rfl (Or.inl rfl)) (fun _ _ _ _ _ => pts_nil) (fun _ _ _ _ _ => (pe_call Gis_name (hr.mono (by omega)) (by rfl) dis_name.g dis_name.F.kp dis_name.b .nil pass0 (pa_cons (pv 3) pa_nil)))) pa_nil)) (pe_one (pe_cmpR (op_eqD hr.units) (pe_callTy call_list_of (by rfl) T.n_list (by decide +kernel) (pa_cons (pe_ix ix_tup (pv 1) pe_int (fun _ _ => rfl)) pa_nil)) (pe_callB (cr_sortedSS rfl) (by rfl) T.n_sorted (by decide +kernel) (pa_cons (pe_callTy (cr_setTS rfl) (by rfl) T.n_set (by decide +kernel) (pa_cons (pe_ix ix_tup (pv 1) pe_int (fun _ _ => rfl)) pa_nil)) pa_nil)) (nomark _)))))))
      pss_nil)
    (pss_cons (ps_set (i := 2) scis_question.nd rfl (Or.inl rfl) (pe_dget2 hu (pe_disp (pps_cons pe_str pe_int (pps_cons pe_str pe_int (pps_cons pe_str pe_int (pps_cons pe_str pe_int (pps_cons pe_str pe_int pps_nil))))) rfl rfl (by simp) (by decide)) (pe_ix ix_tup (pv 0) pe_int (fun _ _ => rfl)) (pe_un un_neg pe_int) ⟨rfl, rfl, rfl, rfl⟩))
    (pss_one (ps_ret (pe_and (pe_cmpR op_eq (pe_callB call_len_seq (by rfl) T.n_len (by decide +kernel) (pa_cons (pv 1) pa_nil)) (pv 2) (nomark _)) (pe_and (pe_callB (cr_all rfl) (by rfl) T.n_all (by decide +kernel) (pa_cons (pe_lc (own := [("_law_name", 3)]) (g := gName 3) (tt := tYes) rfl scis_question.nd (pi_tup (pv 1)) (blkOk_by (N := Nis_question) (sc := defScope sis_question) (by decide +kernel)) (fun _ _ _ _ _ => pg_name (i := 3) scis_question.nd rfl (Or.inl rfl)) (fun _ _ _ _ _ => pts_nil) (fun _ _ _ _ _ => (pe_call Gis_name (hr.mono (by omega)) (by rfl) dis_name.g dis_name.F.kp dis_name.b .nil pass0 (pa_cons (pv 3) pa_nil)))) pa_nil)) (pe_one (pe_cmpR op_eq (pe_callB call_len_seq (by rfl) T.n_len (by decide +kernel) (pa_cons (pe_callB (cr_sortedSS rfl) (by rfl) T.n_sorted (by decide +kernel) (pa_cons (pe_callTy (cr_setTS rfl) (by rfl) T.n_set (by decide +kernel) (pa_cons (pv 1) pa_nil)) pa_nil)) pa_nil)) (pv 2) (nomark _)))))))))))), ?_⟩
    obtain ⟨t, ty, kI, kB, kS, kT⟩ := hx.ty
    refine ⟨v, rfl, v, _, t, _, isT x, rfl, .ty "tuple", ty, kT, isT x, rfl, ?_⟩
    cases x with
    | tup ds =>
      obtain ⟨a, xs, rfl, h1, h2, h3⟩ := hx.tup
      have hl := Paired.length h3
      refine iteF ⟨.ref a, rfl, a, _, rfl, .inr h1.seq, rfl, ?_⟩
      cases ds with
      | nil =>
        rw [show xs = [] from List.length_eq_zero_iff.mp hl]
        exact ⟨true, rfl, iteT (iteT (q H (Same.refl H)))⟩
      | cons d0 ds =>
        obtain ⟨x0, xs, rfl⟩ : ∃ y ys, xs = y :: ys := match xs, hl with | y :: ys, _ => ⟨y, ys, rfl⟩
        have f0 : DtAt K H x0 d0 := by cases h3 with | cons e _ => exact e
        have h3t : Paired (DtAt K H) xs ds := by cases h3 with | cons _ e => exact e
        have hlt : xs.length = ds.length := Paired.length h3t
        obtain ⟨t0, ty0, kI0, kB0, kS0, kT0⟩ := f0.ty
        refine ⟨false, congrArg V.bl (decide_eq_false (show ¬ V.int (((x0 :: xs).length : Nat) : Int) = V.int 0 from fun z => by injection z with z; rw [List.length_cons] at z; omega)), iteF ⟨.ref a, rfl, a, _, _, _, rfl, rfl, h1.seq, atI_nat (j := 0) rfl, x0, _, t0, _, isS d0, rfl, .ty "str", ty0, kS0, isS d0, rfl, ?_⟩⟩
        cases d0 with
        | str wd =>
          obtain ⟨rfl, _⟩ := f0.str
          have q : ∀ H', Same H H' → Q (.bl (qnP wd ds)) H' := q
          refine iteF ⟨.ref a, rfl, 1, rfl, a, _, rfl, h1, fun p H1 s1 hp => ?_⟩
          rw [show cutV (V.str wd :: xs) (some 1) none = (V.str wd :: xs).drop 1 from cut_rest (b := 1)] at hp
          have hp : Ptp H1 p xs := hp
          have g1 := h1.same s1
          refine ⟨.ref a, rfl, a, _, _, _, rfl, rfl, g1.seq, atI_nat (j := 0) rfl, rfl, decide (wd = Str.ofString "first"), congrArg V.bl (dstr _ _), ?_⟩
          by_cases e1 : wd = Str.ofString "first"
          · rw [decide_eq_true e1]
            rw [qnP_first e1] at q
            refine iteT ⟨.ref p, rfl, p, _, rfl, .inr hp.seq, rfl, ?_⟩
            by_cases c : ds.length = 1
            · obtain ⟨d1, rfl⟩ : ∃ d1, ds = [d1] := match ds, c with | [d1], _ => ⟨d1, rfl⟩
              obtain ⟨x1, rfl⟩ : ∃ x1, xs = [x1] := match xs, hlt with | [x1], _ => ⟨x1, rfl⟩
              have f1 : DtAt K H x1 d1 := by cases h3t with | cons e _ => exact e
              exact ⟨true, rfl, iteT ⟨.ref p, rfl, p, _, _, _, rfl, rfl, hp.seq, atI_nat (j := 0) rfl, x1, d1, 1, 40, rfl, f1.same s1, q H1 s1⟩⟩
            · rw [decide_eq_false c, Bool.false_and] at q
              exact ⟨false, congrArg V.bl ((dlen (m := 1)).trans (decide_eq_false (by omega))), iteF (q H1 s1)⟩
          rw [decide_eq_false e1]
          refine iteF ⟨.ref a, rfl, a, _, _, _, rfl, rfl, g1.seq, atI_nat (j := 0) rfl, rfl, decide (wd = Str.ofString "lot"), congrArg V.bl (dstr _ _), ?_⟩
          by_cases e2 : wd = Str.ofString "lot"
          · rw [decide_eq_true e2]
            rw [qnP_lot e2] at q
            refine iteT ⟨.ref p, rfl, p, _, rfl, .inr hp.seq, rfl, ?_⟩
            by_cases c : ds.length = 1
            · obtain ⟨d1, rfl⟩ : ∃ d1, ds = [d1] := match ds, c with | [d1], _ => ⟨d1, rfl⟩
              obtain ⟨x1, rfl⟩ : ∃ x1, xs = [x1] := match xs, hlt with | [x1], _ => ⟨x1, rfl⟩
              have f1 : DtAt K H x1 d1 := by cases h3t with | cons e _ => exact e
              have q : ∀ H', Same H H' → Q (.bl (lotB d1)) H' := q
              obtain ⟨t1, ty1, kI1, kB1, kS1, kT1⟩ := (f1.same s1).ty
              refine ⟨false, rfl, iteF ⟨.ref p, rfl, p, _, _, _, rfl, rfl, hp.seq, atI_nat (j := 0) rfl, x1, _, t1, _, isT d1, rfl, .ty "tuple", ty1, kT1, isT d1, rfl, ?_⟩⟩
              cases d1 with
              | tup ks =>
                obtain ⟨b, ys, rfl, k1, k2, k3⟩ := (f1.same s1).tup
                have kl := Paired.length k3
                have q : ∀ H', Same H H' → Q (.bl (decide (ks.length ≤ 40) && (ks.all nameD && chainR (ks.map strD)))) H' := q
                refine iteF ⟨.ref p, rfl, p, _, _, _, rfl, rfl, hp.seq, atI_nat (j := 0) rfl, b, _, rfl, .inr k1.seq, _, _, rfl, rfl, ?_⟩
                by_cases h40 : ks.length ≤ 40
                · rw [decide_eq_true h40, Bool.true_and] at q
                  refine ⟨false, congrArg V.bl (decide_eq_false (by omega)), iteF ⟨.ref p, rfl, p, _, _, _, rfl, rfl, hp.seq, atI_nat (j := 0) rfl, b, rfl, ⟨_, k1.seq⟩, fun D nD => lc_tup (xs := ys) (fun i H3 => Same H1 H3 ∧ H3 D = some (.lst ((ks.take i).map fun d => V.bl (nameD d)))) ⟨same_upd nD, upd_same⟩ (fun i H3 _ h3 => (k1.same h3.1).seq) (fun i x H3 hx h4 => ?_) (fun H3 h4 => ?_)⟩⟩
                  · obtain ⟨e, he, hat⟩ := paired_at k3 hx
                    refine ⟨rfl, x, rfl, x, e, rfl, hat.same h4.1, fun H4 s4 => ⟨_, s4 _ _ h4.2, ?_, fun b o z => ?_, ?_⟩⟩
                    · rw [List.length_map, List.length_take, sizeLine_eq]
                      omega
                    · rw [upd_ne (ne_of_none z nD)]
                      exact s4 b o (h4.1 b o z)
                    · rw [upd_same, List.take_add_one, he, List.map_append]
                      rfl
                  · obtain ⟨s3, hD⟩ := h4
                    refine ⟨D, ks.map nameD, rfl, sql (by rw [hD, kl, List.take_length, List.map_map]; rfl), (ks.map nameD).all id, rfl, ?_⟩
                    rw [show (ks.map nameD).all id = ks.all nameD by rw [List.all_map]; rfl]
                    have s03 := same_trans s1 s3
                    cases hall : ks.all nameD with
                    | false =>
                      rw [hall, Bool.false_and] at q
                      exact iteF (q H3 s03)
                    | true =>
                      rw [hall, Bool.true_and] at q
                      obtain ⟨exs, hnm⟩ := strs_of k3 hall
                      generalize hzs : ks.map strD = zs at exs hnm q
                      have hzl : zs.length ≤ 40 := by
                        have := congrArg List.length hzs
                        rw [List.length_map] at this
                        omega
                      subst exs
                      refine iteT ⟨.ref p, rfl, p, _, _, _, rfl, rfl, (hp.same s3).seq, atI_nat (j := 0) rfl, b, _, rfl, .inr (k1.same s3).seq, fun l nl => ?_⟩
                      have s4 : Same H3 (upd H3 l (.lst (zs.map V.str))) := same_upd nl
                      have hL : (upd H3 l (.lst (zs.map V.str))) l = some (.lst (zs.map V.str)) := upd_same
                      generalize upd H3 l (.lst (zs.map V.str)) = H4 at s4 hL ⊢
                      have s34 := same_trans s3 s4
                      refine ⟨.ref p, rfl, p, _, _, _, rfl, rfl, (hp.same s34).seq, atI_nat (j := 0) rfl, b, zs, rfl, (k1.same s34).seq, by omega, fun p2 n np hn => ?_⟩
                      have hnl : n ≤ 40 := by
                        have := dcz_le zs zs.length
                        omega
                      refine ⟨p2, _, n, rfl, upd_same, by omega, fun S l2 so hmem hSl nl2 => ?_⟩
                      have ndS := dcz_nd hmem (by omega)
                      have hmem2 : ∀ z, z ∈ S ↔ z ∈ zs := fun z => (hmem z).trans (hasZ_all _ z)
                      have s7 : Same H4 (upd (upd H4 p2 _) l2 (.lst (S.map V.str))) := Same.new (same_upd np) nl2
                      obtain ⟨l1, l2'⟩ := lay_strs hnm
                      obtain ⟨l3, l4⟩ := lay_strs (zs := S) fun z hz => hnm z ((hmem2 z).mp hz)
                      refine ⟨.list (zs.map PyData.str), .list (S.map PyData.str), .lst (sql (s7 _ _ hL)) (dp_strs _), .lst (sql upd_same) (dp_strs _), ?_, ?_, ?_⟩
                      · show (PyData.canLayAll0 (zs.map PyData.str) && decide (PyData.depthAll (zs.map PyData.str) + 1 ≤ 64)) = true
                        rw [l1, l2']
                        rfl
                      · show (PyData.canLayAll0 (S.map PyData.str) && decide (PyData.depthAll (S.map PyData.str) + 1 ≤ 64)) = true
                        rw [l3, l4]
                        rfl
                      · show Q (.bl (PyData.eqvAll (zs.map PyData.str) (S.map PyData.str))) _
                        rw [asc_eq so ndS hmem2]
                        exact q _ (same_trans s1 (same_trans s34 s7))
                · rw [decide_eq_false h40, Bool.false_and] at q
                  exact ⟨true, congrArg V.bl (decide_eq_true (by omega)), iteT (q H1 s1)⟩
              | _ => exact iteT (iteT (q H1 s1))
            · rw [decide_eq_false c, Bool.false_and] at q
              exact ⟨true, congrArg V.bl (show (!decide (V.int (xs.length : Int) = V.int 1)) = true by rw [show decide (V.int (xs.length : Int) = V.int 1) = false from (dlen (m := 1)).trans (decide_eq_false (by omega))]; rfl), iteT (iteT (q H1 s1))⟩
          rw [decide_eq_false e2]
          rw [qnP_due e1 e2] at q
          refine iteF fun g ng => ⟨upd_same, dueL, rfl, by decide, g, rfl, .inl ⟨_, .inl upd_same⟩, ?_⟩
          have s2 : Same H1 (upd (upd H1 g (.dK [])) g (.dK (mergeK [] dueL))) := Same.put (same_upd ng) ng
          have hG : (upd (upd H1 g (.dK [])) g (.dK (mergeK [] dueL))) g = some (.dK dueL) := by rw [upd_same, due_merge]
          generalize upd (upd H1 g (.dK [])) g (.dK (mergeK [] dueL)) = H2 at s2 hG ⊢
          have s02 := same_trans s1 s2
          refine ⟨.ref a, rfl, a, _, _, _, rfl, rfl, (g1.same s2).seq, atI_nat (j := 0) rfl, 1, rfl, _, .inl ⟨dueL, .inr wd, .inl hG, rfl, rfl⟩, ?_⟩
          refine ⟨.ref p, rfl, p, _, rfl, .inr (hp.same s2).seq, .int (dueI wd), congrArg some (congrArg some (due_get wd)), rfl, decide ((ds.length : Int) = dueI wd), congrArg V.bl (by rw [dint, hlt]), ?_⟩
          by_cases cd : (ds.length : Int) = dueI wd
          · rw [decide_eq_true cd, Bool.true_and] at q
            rw [decide_eq_true cd]
            have hlen : ds.length ≤ 2 := by have := dueI_le wd; omega
            have hp2 := hp.same s2
            refine iteT ⟨.ref p, rfl, p, rfl, ⟨_, hp2.seq⟩, fun D nD => lc_tup (xs := xs) (fun i H3 => Same H2 H3 ∧ H3 D = some (.lst ((ds.take i).map fun d => V.bl (nameD d)))) ⟨same_upd nD, upd_same⟩ (fun i H3 _ h3 => (hp2.same h3.1).seq) (fun i x H3 hx h4 => ?_) (fun H3 h4 => ?_)⟩
            · obtain ⟨e, he, hat⟩ := paired_at h3t hx
              refine ⟨rfl, x, rfl, x, e, rfl, (hat.same s02).same h4.1, fun H4 s4 => ⟨_, s4 _ _ h4.2, ?_, fun b o z => ?_, ?_⟩⟩
              · rw [List.length_map, List.length_take, sizeLine_eq]
                omega
              · rw [upd_ne (ne_of_none z nD)]
                exact s4 b o (h4.1 b o z)
              · rw [upd_same, List.take_add_one, he, List.map_append]
                rfl
            · obtain ⟨s3, hD⟩ := h4
              refine ⟨D, ds.map nameD, rfl, sql (by rw [hD, hlt, List.take_length, List.map_map]; rfl), (ds.map nameD).all id, rfl, ?_⟩
              rw [show (ds.map nameD).all id = ds.all nameD by rw [List.all_map]; rfl]
              have s03 := same_trans s02 s3
              cases hall : ds.all nameD with
              | false =>
                rw [hall, Bool.false_and] at q
                exact iteF (q H3 s03)
              | true =>
                rw [hall, Bool.true_and] at q
                obtain ⟨exs, hnm⟩ := strs_of h3t hall
                refine iteT ⟨.ref p, rfl, p, ds.map strD, rfl, (by rw [← exs]; exact (hp2.same s3).seq), by rw [List.length_map]; omega, fun p2 n np hn => ?_⟩
                have hnl : n ≤ 2 := by
                  have := dcz_le (ds.map strD) (ds.map strD).length
                  rw [List.length_map] at this hn
                  omega
                refine ⟨p2, _, n, rfl, upd_same, by omega, fun S l2 so hmem hSl nl2 => ?_⟩
                have ndS := dcz_nd hmem (by omega)
                have hmem2 : ∀ z, z ∈ S ↔ z ∈ ds.map strD := fun z => (hmem z).trans (hasZ_all _ z)
                have s7 : Same H3 (upd (upd H3 p2 _) l2 (.lst (S.map V.str))) := Same.new (same_upd np) nl2
                refine ⟨l2, _, rfl, .inl (sql upd_same), .int (dueI wd), congrArg some (congrArg some (due_get wd)), rfl, ?_⟩
                rw [due_len cd ndS hmem2]
                exact q _ (same_trans s03 s7)
          · rw [decide_eq_false cd, Bool.false_and] at q
            rw [decide_eq_false cd]
            exact iteF (q H2 s02)
        | _ => exact iteT (q H (Same.refl H))
    | _ => exact iteT (iteT (q H (Same.refl H)))
end
end Kb

namespace Kb
open PySem PySem.Spec PyProof.Rows L2 SrtZ SrtO RZ
/-! questions and their texts, as mathematics -/
abbrev blk : Str := Str.ofString " "
abbrev itx (i : Int) : Str := (toString i : String)
def partW : Dat → List Str
  | .tup ks => ks.map strD
  | .int i => [itx i]
  | .str z => [z]
  | _ => []
/-- the words of a question -/
def qws : Dat → List Str
  | .tup (.str w :: ps) => w :: (ps.map partW).flatten
  | _ => []
def qtx (d : Dat) : Str := Txt.join blk (qws d)
/-- the seven questions -/
inductive QnV : Str → List Dat → Prop
  | lot (ks : List Dat) : lotB (.tup ks) = true → QnV (Str.ofString "lot") [.tup ks]
  | fst (i : Int) : 1 ≤ i → i ≤ 40 → QnV (Str.ofString "first") [.int i]
  | none {w : Str} : w = Str.ofString "unlike" ∨ w = Str.ofString "squares" → QnV w []
  | one {w : Str} {d : Dat} : w = Str.ofString "count" ∨ w = Str.ofString "place" → nameD d = true → QnV w [d]
  | two {d e : Dat} : nameD d = true → nameD e = true → strD d ≠ strD e → QnV (Str.ofString "apart") [d, e]
theorem qnV_of {w : Str} {ps : List Dat} (h : qnP w ps = true) : QnV w ps := by
  unfold qnP at h
  split at h
  · rename_i c
    rw [List.length_eq_zero_iff.mp (of_decide_eq_true h)]
    exact .none c
  split at h
  · rename_i _ c
    rw [Bool.and_eq_true, decide_eq_true_eq] at h
    obtain ⟨p, r, rfl⟩ : ∃ p r, ps = [p, r] := match ps, h.1 with | [p, r], _ => ⟨p, r, rfl⟩
    have h2 : (nameD p && (nameD r && !decide (strD p = strD r))) = true := h.2
    rw [Bool.and_eq_true, Bool.and_eq_true, Bool.not_eq_true', decide_eq_false_iff_not] at h2
    subst c
    exact .two h2.1 h2.2.1 h2.2.2
  split at h
  · rename_i hl
    obtain ⟨p, rfl⟩ : ∃ p, ps = [p] := match ps, hl with | [p], _ => ⟨p, rfl⟩
    split at h
    · rename_i c
      exact .one c h
    split at h
    · rename_i _ c
      subst c
      obtain ⟨i, e, h1, h2⟩ := wi_is (d := p) h
      subst e
      exact .fst i h1 h2
    · rw [Bool.and_eq_true, decide_eq_true_eq] at h
      rw [h.1]
      have h2 : lotB p = true := h.2
      cases p with
      | tup ks => exact .lot ks h2
      | _ => cases h2
  · cases h
theorem qnP_of {w : Str} {ps : List Dat} (h : QnV w ps) : qnP w ps = true := by
  cases h with
  | lot ks h =>
    rw [qnP_lot rfl]
    exact h
  | fst i h1 h2 =>
    rw [qnP_first rfl]
    show (decide (1 ≤ i) && decide (i ≤ 40)) = true
    rw [decide_eq_true h1, decide_eq_true h2]
    rfl
  | none c =>
    unfold qnP
    rw [if_pos c]
    rfl
  | one c h =>
    unfold qnP
    rw [if_neg (fun z => by rcases c with rfl | rfl <;> rcases z with z | z <;> exact absurd z (by decide +kernel)), if_neg (fun z => by rcases c with rfl | rfl <;> exact absurd z (by decide +kernel)), if_pos (show [_].length = 1 from rfl), if_pos c]
    exact h
  | two h1 h2 h3 =>
    unfold qnP
    rw [if_neg (by decide +kernel), if_pos rfl]
    rename_i d e
    show (true && (nameD d && (nameD e && !decide (strD d = strD e)))) = true
    rw [h1, h2, decide_eq_false h3]
    rfl
theorem qn_view {d : Dat} (h : qnD d = true) : ∃ w ps, d = .tup (.str w :: ps) ∧ QnV w ps := by
  cases d with
  | tup ds =>
    cases ds with
    | nil => cases h
    | cons e ps =>
      cases e with
      | str w => exact ⟨w, ps, rfl, qnV_of h⟩
      | _ => cases h
  | _ => cases h
theorem name_eq {d : Dat} (h : nameD d = true) : d = .str (strD d) ∧ Nm (strD d) := by
  obtain ⟨z, rfl, n⟩ := nameD_is h
  exact ⟨rfl, n⟩
theorem names_eq : ∀ {ks : List Dat}, ks.all nameD = true → (ks.map strD).map Dat.str = ks ∧ ∀ z ∈ ks.map strD, Nm z
  | [], _ => ⟨rfl, fun _ h => nomatch h⟩
  | k :: ks, c => by
    rw [List.all_cons, Bool.and_eq_true] at c
    obtain ⟨e, n⟩ := name_eq c.1
    obtain ⟨e2, n2⟩ := names_eq c.2
    refine ⟨?_, fun y hy => ?_⟩
    · rw [List.map_cons, List.map_cons, e2, ← e]
    · rcases List.mem_cons.mp hy with rfl | hy
      · exact n
      · exact n2 y hy
theorem lot_parts {ks : List Dat} (h : lotB (.tup ks) = true) : ks.length ≤ 40 ∧ ks.all nameD = true ∧ chainR (ks.map strD) = true := by
  have h : (decide (ks.length ≤ 40) && (ks.all nameD && chainR (ks.map strD))) = true := h
  rw [Bool.and_eq_true, Bool.and_eq_true, decide_eq_true_eq] at h
  exact h
/-- a short word without a blank -/
def wdB (z : Str) : Bool := decide (z.length ≤ 8) && !z.cps.toList.contains 32
theorem nm_wd {z : Str} (h : Nm z) : wdB z = true := by
  unfold wdB
  rw [decide_eq_true h.len, Bool.true_and, Bool.not_eq_true']
  refine Bool.eq_false_iff.mpr fun e => ?_
  have h2 := h.abc 32 (List.contains_iff_mem.mp e)
  revert h2
  decide
theorem itx_wd : ∀ n : Nat, n < 41 → wdB (itx (n : Int)) = true := by decide +kernel
theorem itx_of {i : Int} (h1 : 1 ≤ i) (h2 : i ≤ 40) : ∃ n : Nat, n < 41 ∧ 1 ≤ n ∧ i = (n : Int) := ⟨i.toNat, by omega, by omega, by omega⟩
theorem qws_wd {w : Str} {ps : List Dat} (h : QnV w ps) : (∀ z ∈ qws (.tup (.str w :: ps)), wdB z = true) ∧ (qws (.tup (.str w :: ps))).length ≤ 41 := by
  cases h with
  | lot ks h =>
    obtain ⟨h1, h2, _⟩ := lot_parts h
    obtain ⟨_, n⟩ := names_eq h2
    have e : qws (.tup (.str (Str.ofString "lot") :: [.tup ks])) = Str.ofString "lot" :: ks.map strD := by
      show _ :: (ks.map strD ++ []) = _
      rw [List.append_nil]
    rw [e]
    refine ⟨fun z hz => ?_, by rw [List.length_cons, List.length_map]; omega⟩
    rcases List.mem_cons.mp hz with rfl | hz
    · decide +kernel
    · exact nm_wd (n z hz)
  | fst i h1 h2 =>
    refine ⟨fun z hz => ?_, by show 2 ≤ 41; decide⟩
    rcases List.mem_cons.mp hz with rfl | hz
    · decide +kernel
    · obtain ⟨n, a, b, rfl⟩ := itx_of h1 h2
      rw [List.mem_singleton.mp (show z ∈ [itx (n : Int)] from hz)]
      exact itx_wd n a
  | none c =>
    refine ⟨fun z hz => ?_, by show 1 ≤ 41; decide⟩
    rw [List.mem_singleton.mp (show z ∈ [w] from hz)]
    rcases c with rfl | rfl <;> decide +kernel
  | one c h =>
    obtain ⟨z1, rfl, n1⟩ := nameD_is h
    refine ⟨fun z hz => ?_, by show 2 ≤ 41; decide⟩
    rcases List.mem_cons.mp hz with rfl | hz
    · rcases c with rfl | rfl <;> decide +kernel
    · rw [List.mem_singleton.mp (show z ∈ [z1] from hz)]
      exact nm_wd n1
  | two h1 h2 h3 =>
    obtain ⟨z1, rfl, n1⟩ := nameD_is h1
    obtain ⟨z2, rfl, n2⟩ := nameD_is h2
    refine ⟨fun z hz => ?_, by show 3 ≤ 41; decide⟩
    rcases List.mem_cons.mp hz with rfl | hz
    · decide +kernel
    · rcases List.mem_cons.mp (show z ∈ [z1, z2] from hz) with rfl | hz
      · exact nm_wd n1
      · rw [List.mem_singleton.mp hz]
        exact nm_wd n2
theorem sum_wd : ∀ {ys : List Str}, (∀ z ∈ ys, wdB z = true) → (ys.map (·.length)).sum ≤ 8 * ys.length
  | [], _ => Nat.le_refl _
  | y :: ys, h => by
    have h1 := h y List.mem_cons_self
    unfold wdB at h1
    rw [Bool.and_eq_true, decide_eq_true_eq] at h1
    have := sum_wd (ys := ys) fun z hz => h z (List.mem_cons_of_mem _ hz)
    rw [List.map_cons, List.sum_cons, List.length_cons]
    have := h1.1
    omega
theorem blk_len : blk.length = 1 := by decide +kernel
theorem qtx_fit {w : Str} {ps : List Dat} (h : QnV w ps) : ((qws (.tup (.str w :: ps))).map (·.length)).sum + (qws (.tup (.str w :: ps))).length * blk.length ≤ 400 := by
  obtain ⟨h1, h2⟩ := qws_wd h
  have := sum_wd h1
  rw [blk_len]
  omega
theorem join_len (ys : List Str) : (Txt.join blk ys).length ≤ (ys.map (·.length)).sum + ys.length * blk.length := by
  show (Builtin.Str.glued blk ys).length ≤ _
  rw [StrLaws.glued_eq_join]
  exact StrLaws.join_length_le blk ys
theorem qtx_split {w : Str} {ps : List Dat} (h : QnV w ps) : Txt.split (qtx (.tup (.str w :: ps))) blk = qws (.tup (.str w :: ps)) := by
  refine TL.split_join (s := 32) (S := []) (by decide +kernel) (by decide +kernel) (by intro z; cases z) fun p hp => ?_
  have h1 := (qws_wd h).1 p hp
  unfold wdB at h1
  rw [Bool.and_eq_true, Bool.not_eq_true'] at h1
  intro z
  have := List.contains_iff_mem.mpr z
  rw [h1.2] at this
  cases this
/-! numbers -/
def dgC (c : Nat) : Bool := !decide (c < 48) && !decide (57 < c)
def numO (z : Str) : Option Int :=
  if decide (1 ≤ z.length) && (decide (z.length ≤ 12) && (cs z).all dgC) then
    if decide (1 < z.length) && decide ((cs z).head? = some 48) then none else some ((NumText.digitsVal (cs z) : Nat) : Int)
  else none
def numD (z : Str) : Dat := match numO z with
  | some i => .int i
  | none => .non
theorem numO_itx : ∀ n : Nat, n < 41 → numO (itx (n : Int)) = some (n : Int) := by decide +kernel
theorem val_lt : ∀ {l : List Nat} (a : Nat), l.all dgC = true → l.foldl (fun acc c => acc * 10 + (c - 48)) a ≤ (a + 1) * 10 ^ l.length
  | [], a, _ => by
    show a ≤ (a + 1) * 1
    omega
  | c :: l, a, h => by
    rw [List.all_cons, Bool.and_eq_true] at h
    have hc : c - 48 ≤ 9 := by
      have := h.1
      unfold dgC at this
      rw [Bool.and_eq_true, Bool.not_eq_true', Bool.not_eq_true', decide_eq_false_iff_not, decide_eq_false_iff_not] at this
      omega
    have ih := val_lt (l := l) (a * 10 + (c - 48)) h.2
    rw [List.foldl_cons, List.length_cons, Nat.pow_succ]
    refine Nat.le_trans ih ?_
    have : (a * 10 + (c - 48) + 1) * 10 ^ l.length ≤ (a + 1) * 10 * 10 ^ l.length := Nat.mul_le_mul_right _ (by omega)
    rw [Nat.mul_comm (10 ^ l.length) 10, ← Nat.mul_assoc]
    exact this
theorem dg_all {z : Str} (h : (cs z).all dgC = true) : NumText.AllDigits z.cps.toList := fun c hc => by
  have := List.all_eq_true.mp h c hc
  unfold dgC at this
  rw [Bool.and_eq_true, Bool.not_eq_true', Bool.not_eq_true', decide_eq_false_iff_not, decide_eq_false_iff_not] at this
  omega
theorem cs_len' (z : Str) : (cs z).length = z.length := by
  show z.cps.toList.length = z.cps.size
  simp
theorem val_small {z : Str} (h : (cs z).all dgC = true) (hl : z.length ≤ 12) : NumText.digitsVal (cs z) ≤ 10 ^ 12 := by
  have h1 := val_lt 0 h
  have h2 : (10 : Nat) ^ (cs z).length ≤ 10 ^ 12 := Nat.pow_le_pow_right (by decide) (by rw [cs_len']; exact hl)
  show (cs z).foldl _ 0 ≤ _
  omega
theorem num_reads {z : Str} (h : (cs z).all dgC = true) (h1 : 1 ≤ z.length) (h2 : z.length ≤ 12) : intText? z = some ((NumText.digitsVal (cs z) : Nat) : Int) :=
  intText_digits (dg_all h) (fun e => by
    have := cs_len' z
    rw [show cs z = [] from e] at this
    rw [← this] at h1
    cases h1) (by omega)
/-! the question of words -/
def rdC : List Str → Dat
  | [] => .non
  | w :: ps => if w = Str.ofString "lot" then .tup [.str w, .tup (ps.map .str)] else if w = Str.ofString "first" then .tup (.str w :: ps.map numD) else .tup (.str w :: ps.map .str)
theorem rdC_cons (w : Str) (ps : List Str) : rdC (w :: ps) = if w = Str.ofString "lot" then .tup [.str w, .tup (ps.map .str)] else if w = Str.ofString "first" then .tup (.str w :: ps.map numD) else .tup (.str w :: ps.map .str) := rfl
def rdQ (ws : List Str) : Dat := if qnD (rdC ws) then rdC ws else .non
theorem rd_qws {w : Str} {ps : List Dat} (h : QnV w ps) : rdQ (qws (.tup (.str w :: ps))) = .tup (.str w :: ps) := by
  have fin : rdC (qws (.tup (.str w :: ps))) = .tup (.str w :: ps) := by
    cases h with
    | lot ks h =>
      obtain ⟨h1, h2, _⟩ := lot_parts h
      have e : qws (.tup (.str (Str.ofString "lot") :: [.tup ks])) = Str.ofString "lot" :: ks.map strD := by
        show _ :: (ks.map strD ++ []) = _
        rw [List.append_nil]
      rw [e]
      rw [rdC_cons, if_pos rfl, (names_eq h2).1]
    | fst i h1 h2 =>
      obtain ⟨n, a, b, rfl⟩ := itx_of h1 h2
      show rdC [Str.ofString "first", itx (n : Int)] = _
      rw [rdC_cons, if_neg (by decide +kernel), if_pos rfl]
      show Dat.tup [.str (Str.ofString "first"), numD (itx (n : Int))] = _
      unfold numD
      rw [numO_itx n a]
    | none c =>
      show rdC [w] = _
      rw [rdC_cons, if_neg (fun z => by rcases c with rfl | rfl <;> exact absurd z (by decide +kernel)), if_neg (fun z => by rcases c with rfl | rfl <;> exact absurd z (by decide +kernel))]
      rfl
    | one c h =>
      obtain ⟨z1, rfl, n1⟩ := nameD_is h
      show rdC [w, z1] = _
      rw [rdC_cons, if_neg (fun z => by rcases c with rfl | rfl <;> exact absurd z (by decide +kernel)), if_neg (fun z => by rcases c with rfl | rfl <;> exact absurd z (by decide +kernel))]
      rfl
    | two h1 h2 h3 =>
      obtain ⟨z1, rfl, n1⟩ := nameD_is h1
      obtain ⟨z2, rfl, n2⟩ := nameD_is h2
      show rdC [Str.ofString "apart", z1, z2] = _
      rw [rdC_cons, if_neg (by decide +kernel), if_neg (by decide +kernel)]
      rfl
  unfold rdQ
  rw [fin, if_pos (show qnD (.tup (.str w :: ps)) = true from qnP_of h)]
end Kb

namespace L2
open PySem PySem.Spec PyProof.Rows
/-! first, *rest = a list -/
/-- a walk, from its second item on -/
theorem walks_next {prog : Program} {w : World} {A : Around} {I : Addr} {fp wr : List Addr} {n : Nat} {P : Nat → Value → Prop} {St : Nat → Heap → Prop} (W : Walks prog w A I fp wr (n + 1) P St) :
    Walks prog w A I fp wr n (fun i => P (i + 1)) (fun i => St (i + 1)) where
  sub := W.sub
  frame := fun i => W.frame (i + 1)
  item := fun i s Q E hi => W.item (i + 1) s Q E (Nat.succ_lt_succ hi)
  done := W.done
  self := fun i => W.self (i + 1)
def gRest (K : PySem.W.Frag) (g1 g2 : TG) : TG := fun v σ H Q => ∃ a x xs, v = .ref a ∧ SqL K H a (x :: xs) ∧ ∀ l, H l = none → g1 x σ (upd H l (.lst xs)) fun σ1 H1 => g2 (.ref l) σ1 H1 Q
section
variable {X : Cx} {e1 e2 : Expr} {k : Nat} {p pos : Pos} {g1 g2 : TG}
theorem pg_rest (hc : X.calm = true) (h1 : PG X e1 g1) (h2 : PG X e2 g2) (shape : assignEach [e1, .Starred e2 p] X.env = [(false, assign e1 X.env), (true, assign e2 X.env)] := by rfl) : PG X (.Tuple [e1, .Starred e2 p] k pos) (gRest X.K g1 g2) := by
  refine ⟨fun pins s σ H v u Q I r h => ?_⟩
  obtain ⟨a, x, xs, rfl, hs, hq⟩ := h
  cases r
  obtain ⟨its, rv, pl, hz⟩ := I.list hs
  obtain ⟨y, ys, rfl, ry, rys⟩ : ∃ y ys, its = y :: ys ∧ RelV x y ∧ Vals xs ys := by
    cases rv with
    | cons ry rys => exact ⟨_, _, rfl, ry, rys⟩
  have il : s.heap.IsList a (y :: ys).toArray := pl.isList
  have hne : a ≠ s.heap.objs.size := by obtain ⟨o, ho, _⟩ := il; exact Nat.ne_of_lt (Heap.lt_size ho)
  rw [assign_Tuple, shape]
  refine wpAny_bind (wpAny_standAt ?_)
  unfold unpack
  refine wpAny_bind (wpAny_holding ?_)
  show wpAny _ _ (unpackItems (.ref a) 2 (some 1)) _ _ _
  unfold unpackItems
  refine wpAny_bind ?_
  unfold notIterableAtAll
  refine wpAny_bind (wpAny_specialOf il.typeIs F.slot_list_iter.lookup (wpAny_pure ?_))
  rw [if_neg Bool.false_ne_true]
  refine wpAny_bind (wpAny_holding (wpAny_pyIter_list il ?_))
  have W := Walks.list (prog := X.prog) (w := X.w) (A := X.A.in1) (I.ok.hd hc) s.heap.objs.size a hne (y :: ys).toArray
  have st0 : (s.heap.push { cls := .type "list_iterator", data := .fields #[.ref a, .int 0 0] }).IsListIter s.heap.objs.size a 0 := ⟨_, Heap.get?_push_size _ rfl, rfl, rfl⟩
  refine wpAny_bind (wpAny_holding ?_)
  show wpAny _ _ (draw (.ref s.heap.objs.size) 1) _ _ _
  refine wpAny_bind (wpAny_of_in1 (W.item 0 _ _ _ (by simp) ⟨st0, il.push _⟩ fun v1 h1' tk1 hv1 st1 k1 => ?_))
  have e1' : v1 = y := by simpa using hv1.symm
  subst e1'
  refine wpAny_bind (wpAny_holding (wpAny_pure (wpAny_pure ?_)))
  rw [if_neg (by simp)]
  have keep0 : ∀ b o, s.heap.get? b = some o → h1'.get? b = some o := fun b o q => k1 b o (fun hb => by
    rw [List.mem_singleton.mp hb] at q
    exact absurd (Heap.lt_size q) (Nat.lt_irrefl _)) (Heap.get?_push_of_some _ q)
  have W2 := walks_next (n := ys.length) (show Walks X.prog X.w X.A.in1 s.heap.objs.size [s.heap.objs.size, a] [s.heap.objs.size] (ys.length + 1) _ _ from W)
  have live : s.heap.objs.size < h1'.objs.size := by
    obtain ⟨o, ho, _⟩ := st1.1
    exact Heap.lt_size ho
  have lz : ys.length ≤ sizeLine := by
    have := rys.length
    rw [List.length_cons] at hz
    omega
  refine wpAny_bind (wpAny_holding (wpAny_collect_iter (.inr (.inr (.inl rfl))) W2.toS (fun i s' st => ?_) st1 (fun b hb => ?_) (by simp) (fun s' acc mv items => ?_) lz))
  · exact st.1.typeIs
  · rcases List.mem_cons.mp hb with rfl | hb
    · exact live
    · rw [List.mem_singleton.mp hb]
      obtain ⟨o, ho, _⟩ := st1.2
      exact Heap.lt_size ho
  · have acy : acc.toList = ys := by
      refine List.ext_getElem? fun j => ?_
      rw [Array.getElem?_toList]
      by_cases hj : j < acc.size
      · have hv := items.2 j acc[j] (by simp [hj])
        rw [show acc[j]? = some acc[j] by simp [hj]]
        simpa using hv.symm
      · rw [show acc[j]? = none by simp [hj]]
        rw [items.1] at hj
        exact (List.getElem?_eq_none (by omega)).symm
    rw [acy]
    dsimp only
    rw [if_neg (by simp)]
    have keep1 : ∀ b o, s.heap.get? b = some o → s'.heap.get? b = some o := fun b o q => mv.heap b o (fun hb => by
      rw [List.mem_singleton.mp hb] at q
      exact absurd (Heap.lt_size q) (Nat.lt_irrefl _)) (keep0 b o q)
    obtain ⟨hp, gs, dr, tk, os⟩ := s'
    have eg : gs = s.gens := mv.gens
    have ed : dr = s.drawn := mv.drawn
    have eo : os = s.os := mv.os
    subst eg ed eo
    have I1 : Inv X pins σ H { s with heap := hp, toks := tk } := I.kept keep1
    refine wpAny_bind (wpAny_newObj_type (wpAny_pure ?_) (by
      show (ys.take _).toArray.size ≤ sizeLine
      rw [List.size_toArray, List.length_take]
      omega))
    have mid : ys.take (ys.length - (2 - 1 - 1)) = ys := List.take_of_length_le (by omega)
    have none_ : ys.drop (ys.length - (2 - 1 - 1)) = [] := List.drop_eq_nil_of_le (by omega)
    rw [mid, none_]
    have fresh := I1.hok.fresh (Nat.le_refl hp.objs.size)
    have I2 : Inv X pins σ (upd H hp.objs.size (.lst xs)) { s with heap := hp.push { cls := .type "list", data := .seq ys.toArray }, toks := tk } :=
      I1.laid (t' := tk) (fun _ _ q => Heap.get?_push_of_some _ q) (Nat.le_refl _) ⟨by rw [rys.length]; exact lz, ys, _, rys, Heap.get?_push_size _ rfl⟩
    show wpAny _ _ (assignInOrder [assign e1 X.env, assign e2 X.env] [v1, .ref hp.objs.size]) _ _ _
    refine wpAny_bind (wpAny_holding (thn (h1.run pins _ σ _ x v1 _ I2 ry (hq _ fresh)) fun _ s3 ⟨σ3, H3, I3, q3⟩ => ?_))
    exact wpAny_bind (wpAny_holding (thn (h2.run pins s3 σ3 H3 (.ref hp.objs.size) _ _ I3 rfl q3) fun _ s4 got => wpAny_pure got))
end
end L2

namespace Kb
open PySem PySem.Spec PyProof.Rows L2 SrtZ SrtO RZ StX
abbrev sP_question_text : Stmt := topS 14
abbrev NP_question_text : List Str := ["question", "part"]
theorem scP_question_text : FnScope ["question", "part"] ["question"] (defScope sP_question_text) := ⟨rfl, rfl, rfl, by decide +kernel, rfl, by decide +kernel, by decide +kernel⟩
abbrev DnQuestionText (K : PySem.W.Frag) (mg : Str → Option Value) := Dn K mg "question_text" sP_question_text ["question"]
abbrev sP_read_question : Stmt := topS 15
abbrev NP_read_question : List Str := ["text"]
theorem scP_read_question : FnScope ["text"] ["text"] (defScope sP_read_question) := ⟨rfl, rfl, rfl, by decide +kernel, rfl, by decide +kernel, by decide +kernel⟩
abbrev DnReadQuestion (K : PySem.W.Frag) (mg : Str → Option Value) := Dn K mg "read_question" sP_read_question ["text"]
abbrev sP_question : Stmt := topS 16
abbrev NP_question : List Str := ["words", "word", "parts", "question", "part"]
theorem scP_question : FnScope ["words", "word", "parts", "question", "part"] ["words"] (defScope sP_question) := ⟨rfl, rfl, rfl, by decide +kernel, rfl, by decide +kernel, by decide +kernel⟩
abbrev DnWordsQuestion (K : PySem.W.Frag) (mg : Str → Option Value) := Dn K mg "_question" sP_question ["words"]
abbrev sP_number : Stmt := topS 17
abbrev NP_number : List Str := ["word", "sign"]
theorem scP_number : FnScope ["word", "sign"] ["word"] (defScope sP_number) := ⟨rfl, rfl, rfl, by decide +kernel, rfl, by decide +kernel, by decide +kernel⟩
abbrev DnNumber (K : PySem.W.Frag) (mg : Str → Option Value) := Dn K mg "_number" sP_number ["word"]
section
variable {X : Cx} {pos : Pos} {x : Str} {p : Pos}
/-- C(), C an own class of errors without own __init__ -/
theorem pmk_bare {C : Addr} {bmB : List Value} {B newId initId : String} (F : ExcBaseFacts B newId initId bmB) (isExc : PySem.W.excIn X.K C bmB newId = true) (at_ : X.mg x = some (.ref C)) (kept : PySem.W.keepIn X.K (.ref C) = true) (may : Raises X (.ref C)) (gl : Gl X x)
    (nodebug : (x == ("__debug__" : Str)) = false := by decide) : PMk X (.Call (.Name x p) [] [] pos) (fun _ H Q => Q (.ref C) none H) := by
  intro pins s σ H Q I h
  refine wpAny_Call_Name_kw (ld_glob I gl at_ ?_ nodebug)
  refine PySem.W.callWith_K0 I.kIn kept ?_
  obtain ⟨_, _, _, _, _, _, _, _, _, _, _, _, _, _, _, _, _, isC, names, noInit, tail⟩ := exc_obj I.kIn isExc
  exact wpAny_call_exc_subT F tail isC names noInit (fun h' e' made => mk_of I made may h (I.hok.gone made.new)) (Nat.zero_le _)
end
/-- an own class of errors -/
structure TxE (K : PySem.W.Frag) (mg : Str → Option Value) (nm : Str) where
  C : Addr
  gC : mg nm = some (.ref C)
  exc : PySem.W.excIn K C [.type "ValueError", .type "Exception", .type "BaseException", .type "object"] "ValueError.__new__" = true
  kp : PySem.W.keepIn K (.ref C) = true
  sub : PySem.W.subIn K (.ref C) (.type "BaseException") = some true
  ty : PySem.W.typeIn K (.ref C) = some (.type "type")
  isC : ExcC K C
def partS : Dat → Str
  | .str z => z
  | .int i => itx i
  | _ => Str.ofString ""
theorem qws_oth {w : Str} {ps : List Dat} (h : QnV w ps) (hn : ¬ w = Str.ofString "lot") : qws (.tup (.str w :: ps)) = (Dat.str w :: ps).map partS ∧ (∀ p ∈ Dat.str w :: ps, (∃ z, p = .str z) ∨ ∃ i, p = .int i ∧ 1 ≤ i ∧ i ≤ 40) := by
  cases h with
  | lot ks h => exact absurd rfl hn
  | fst i h1 h2 =>
    refine ⟨rfl, fun p hp => ?_⟩
    rcases List.mem_cons.mp hp with rfl | hp
    · exact .inl ⟨_, rfl⟩
    · rw [List.mem_singleton.mp hp]
      exact .inr ⟨i, rfl, h1, h2⟩
  | none c =>
    refine ⟨rfl, fun p hp => ?_⟩
    rw [List.mem_singleton.mp hp]
    exact .inl ⟨_, rfl⟩
  | one c h =>
    obtain ⟨z1, rfl, n1⟩ := nameD_is h
    refine ⟨rfl, fun p hp => ?_⟩
    rcases List.mem_cons.mp hp with rfl | hp
    · exact .inl ⟨_, rfl⟩
    · rw [List.mem_singleton.mp hp]
      exact .inl ⟨_, rfl⟩
  | two h1 h2 h3 =>
    obtain ⟨z1, rfl, n1⟩ := nameD_is h1
    obtain ⟨z2, rfl, n2⟩ := nameD_is h2
    refine ⟨rfl, fun p hp => ?_⟩
    rcases List.mem_cons.mp hp with rfl | hp
    · exact .inl ⟨_, rfl⟩
    · rcases List.mem_cons.mp hp with rfl | hp
      · exact .inl ⟨_, rfl⟩
      · rw [List.mem_singleton.mp hp]
        exact .inl ⟨_, rfl⟩
theorem log_small {i : Int} (h1 : 1 ≤ i) (h2 : i ≤ 40) : i.natAbs.log2 < 1920 := by
  have := Nat.log2_le_self i.natAbs
  omega
section
variable {P : Program} {w : World} {K : PySem.W.Frag} {mg : Str → Option Value} {base : Heap}
/-! question_text, of a question -/
def spQtext (K : PySem.W.Frag) : Sp := fun vs H Q _ => ∃ (v : V) (d : Dat), vs = [v] ∧ DtAt K H v d ∧ qnD d = true ∧ ∀ H', Same H H' → Q (.str (qtx d)) H'
theorem ok_qtext (T : Blt mg) (cL : Cst mg "LONGEST_NAME" (.int 8)) (cA : Cst mg "MOST_ASKED" (.int 40)) (n_zip : mg "zip" = none) (dP_is_int : DnIsInt K mg) (dP_is_name : DnIsName K mg) (dP_is_lot : DnIsLot K mg) (dP_is_question : DnIsQuestion K mg) (d : DnQuestionText K mg) : FnOk P w K mg base CX0 4 d.f d.fd ["question"] (spQtext K) := by
  have GP_is_question : FnOk P w K mg base CX0 3 dP_is_question.f dP_is_question.fd ["thing"] (spIsQuestionD K) := ok_is_questionD T cL cA n_zip dP_is_int dP_is_name dP_is_lot dP_is_question
  refine d.F.ok scP_question_text (fun vs H Q E h => ?_) (fun cdv A outer s H vs Q E hr h => ?_)
  · obtain ⟨v, x, rfl, _⟩ := h
    rfl
  · obtain ⟨v, x, rfl, hx, hq, q⟩ := h
    refine ⟨_, (pss_cons (ps_if (pt_not (pt_val (pe_call GP_is_question (hr.mono (by omega)) (by rfl) dP_is_question.g dP_is_question.F.kp dP_is_question.b .nil pass0 (pa_cons (pv 0) pa_nil))))
      (pss_one ps_never)
      pss_nil)
    (pss_cons (ps_if (pt_cmpR op_eq (pe_ix ix_tup (pv 0) pe_int (fun _ _ => rfl)) pe_str (nomark _))
      (pss_one (ps_ret (pe_join pe_str (pe_lst (pa_cons pe_str (pa_star (pe_ix ix_tup (pv 0) pe_int (fun _ _ => rfl)) pa_nil))))))
      pss_nil)
    (pss_one (ps_ret (pe_join pe_str (pe_lc (own := [("part", 1)]) (g := gName 1) (tt := tYes) rfl scP_question_text.nd (pi_tup (pv 0)) (blkOk_by (N := NP_question_text) (sc := defScope sP_question_text) (by decide +kernel)) (fun _ _ _ _ _ => pg_name (i := 1) scP_question_text.nd rfl (Or.inl rfl)) (fun _ _ _ _ _ => pts_nil) (fun _ _ _ _ _ => (pe_callTy (CallR.or call_str_int SkE.call_str_str) (by rfl) T.n_str (by decide +kernel) (pa_cons (pv 1) pa_nil))))))))), ?_⟩
    refine ⟨v, rfl, v, x, rfl, hx, fun H1 s1 => ⟨qnD x, rfl, ?_⟩⟩
    rw [hq]
    refine iteF ?_
    obtain ⟨wd, ps, rfl, hv⟩ := qn_view hq
    obtain ⟨a, xs, rfl, h1, h2, h3⟩ := (hx.same s1).tup
    have hl := Paired.length h3
    obtain ⟨x0, xs, rfl⟩ : ∃ y ys, xs = y :: ys := match xs, hl with | y :: ys, _ => ⟨y, ys, rfl⟩
    have f0 : DtAt K H1 x0 (.str wd) := by cases h3 with | cons e _ => exact e
    have h3t : Paired (DtAt K H1) xs ps := by cases h3 with | cons _ e => exact e
    obtain ⟨rfl, _⟩ := f0.str
    refine ⟨.ref a, rfl, a, _, _, _, rfl, rfl, h1.seq, atI_nat (j := 0) rfl, rfl, decide (wd = Str.ofString "lot"), congrArg V.bl (dstr _ _), ?_⟩
    have hfit := qtx_fit hv
    by_cases e1 : wd = Str.ofString "lot"
    · rw [decide_eq_true e1]
      cases hv with
      | lot ks hk =>
        obtain ⟨x1, rfl⟩ : ∃ x1, xs = [x1] := match xs, Paired.length h3t with | [x1], _ => ⟨x1, rfl⟩
        have f1 : DtAt K H1 x1 (.tup ks) := by cases h3t with | cons e _ => exact e
        obtain ⟨b, ys, rfl, k1, k2, k3⟩ := f1.tup
        obtain ⟨exs, hnm⟩ := strs_of k3 (lot_parts hk).2.1
        subst exs
        refine iteT ⟨⟨_, rfl⟩, .ref a, rfl, a, _, _, _, rfl, rfl, h1.seq, atI_nat (j := 1) rfl, b, _, rfl, .inl k1.seq, ?_, fun p np => ?_⟩
        · show (V.str (Str.ofString "lot") :: ((ks.map strD).map V.str ++ [])).length ≤ sizeLine
          have := (lot_parts hk).1
          rw [List.append_nil, List.length_cons, List.length_map, List.length_map, sizeLine_eq]
          omega
        · refine ⟨blk, p, qws (.tup (.str (Str.ofString "lot") :: [.tup ks])), rfl, rfl, .inl (sql (upd_same.trans ?_)), by omega, q _ (same_trans s1 (same_upd np))⟩
          show some (HO.lst (V.str (Str.ofString "lot") :: ((ks.map strD).map V.str ++ []))) = some (HO.lst ((Str.ofString "lot" :: (ks.map strD ++ [])).map V.str))
          rw [List.append_nil, List.append_nil]
          rfl
      | fst i h1 h2 => exact absurd e1 (by decide +kernel)
      | none c => rcases c with rfl | rfl <;> exact absurd e1 (by decide +kernel)
      | one c h => rcases c with rfl | rfl <;> exact absurd e1 (by decide +kernel)
      | two h1 h2 h3 => exact absurd e1 (by decide +kernel)
    · rw [decide_eq_false e1]
      obtain ⟨ew, hall⟩ := qws_oth hv e1
      generalize hds : Dat.str wd :: ps = ds at ew hall h3 hl
      generalize V.str wd :: xs = zs at h1 h2 h3 hl
      refine iteF ⟨⟨_, rfl⟩, .ref a, rfl, a, rfl, ⟨_, h1.seq⟩, fun D nD => lc_tup (xs := zs) (fun i H3 => Same H1 H3 ∧ H3 D = some (.lst ((ds.take i).map fun d => V.str (partS d)))) ⟨same_upd nD, upd_same⟩ (fun i H3 _ h3 => (h1.same h3.1).seq) (fun i y H3 hy h4 => ?_) (fun H3 h4 => ?_)⟩
      · obtain ⟨e, he, hat⟩ := paired_at h3 hy
        have fin : ∃ acc, H3 D = some (.lst acc) ∧ acc.length < sizeLine ∧ (Same H1 (upd H3 D (.lst (acc ++ [V.str (partS e)]))) ∧ (upd H3 D (.lst (acc ++ [V.str (partS e)]))) D = some (.lst ((ds.take (i + 1)).map fun d => V.str (partS d)))) := by
          refine ⟨_, h4.2, ?_, fun b o z => ?_, ?_⟩
          · rw [List.length_map, List.length_take, sizeLine_eq]
            omega
          · rw [upd_ne (ne_of_none z nD)]
            exact h4.1 b o z
          · rw [upd_same, List.take_add_one, he, List.map_append]
            rfl
        refine ⟨rfl, y, rfl, ?_⟩
        rcases hall e (List.mem_of_getElem? he) with ⟨z, rfl⟩ | ⟨j, rfl, j1, j2⟩
        · obtain ⟨rfl, _⟩ := hat.str
          exact .inr ⟨z, rfl, fin⟩
        · obtain ⟨rfl, _⟩ := hat.int
          exact .inl ⟨j, rfl, log_small j1 j2, fin⟩
      · refine ⟨blk, D, qws (.tup (.str wd :: ps)), rfl, rfl, .inl (sql (h4.2.trans ?_)), by omega, q _ (same_trans s1 h4.1)⟩
        rw [hds] at *
        rw [ew, hl, List.take_length, List.map_map]
        rfl
def spQtextR (K : PySem.W.Frag) (C : Addr) : Sp := fun vs H Q E => ∃ (v : V) (d : Dat), vs = [v] ∧ DtAt K H v d ∧ qnD d = false ∧ ∀ H', Same H H' → E (.ref C) none H'
theorem ok_qtextR (T : Blt mg) (R : TxE K mg "NoQuestion") (cL : Cst mg "LONGEST_NAME" (.int 8)) (cA : Cst mg "MOST_ASKED" (.int 40)) (n_zip : mg "zip" = none) (dP_is_int : DnIsInt K mg) (dP_is_name : DnIsName K mg) (dP_is_lot : DnIsLot K mg) (dP_is_question : DnIsQuestion K mg) (d : DnQuestionText K mg) : FnOk P w K mg base (L2.CX P w) 4 d.f d.fd ["question"] (spQtextR K R.C) := by
  have GP_is_question : FnOk P w K mg base CX0 3 dP_is_question.f dP_is_question.fd ["thing"] (spIsQuestionD K) := ok_is_questionD T cL cA n_zip dP_is_int dP_is_name dP_is_lot dP_is_question
  refine d.F.okX scP_question_text (fun vs H Q E h => ?_) (fun cdv A outer s H vs Q E hr h => ?_)
  · obtain ⟨v, x, rfl, _⟩ := h
    rfl
  · obtain ⟨v, x, rfl, hx, hq, e⟩ := h
    refine ⟨_, (pss_cons (ps_if (pt_not (pt_val (pe_call GP_is_question (hr.mono (by omega)) (by rfl) dP_is_question.g dP_is_question.F.kp dP_is_question.b .nil pass0 (pa_cons (pv 0) pa_nil))))
      (pss_one (ps_raise rfl (takes_of rfl rfl rfl rfl) (pmk_bare PySem.F.excBase_ValueError R.exc R.gC R.kp (raises_own R.sub R.ty) rfl)))
      pss_nil)
    pss_never), ?_⟩
    refine ⟨v, rfl, v, x, rfl, hx, fun H1 s1 => ⟨qnD x, rfl, ?_⟩⟩
    rw [hq]
    exact iteT (e H1 s1)
end
end Kb

namespace Kb
open PySem PySem.Spec PyProof.Rows L2 SrtZ SrtO RZ StX
def valO : Option Int → V
  | some i => .int i
  | none => .non
theorem numO_no {z : Str} (h : ¬ (1 ≤ z.length ∧ z.length ≤ 12 ∧ (cs z).all dgC = true)) : numO z = none := by
  unfold numO
  rw [if_neg]
  rw [Bool.and_eq_true, Bool.and_eq_true, decide_eq_true_eq, decide_eq_true_eq]
  exact h
theorem numO_yes {z : Str} (h1 : 1 ≤ z.length) (h2 : z.length ≤ 12) (h3 : (cs z).all dgC = true) : numO z = if decide (1 < z.length) && decide ((cs z).head? = some 48) then none else some ((NumText.digitsVal (cs z) : Nat) : Int) := by
  unfold numO
  rw [if_pos]
  rw [Bool.and_eq_true, Bool.and_eq_true, decide_eq_true_eq, decide_eq_true_eq]
  exact ⟨h1, h2, h3⟩
theorem numO_le {z : Str} {i : Int} (h : numO z = some i) : i.natAbs ≤ 2 ^ 90 := by
  unfold numO at h
  split at h
  · rename_i c
    rw [Bool.and_eq_true, Bool.and_eq_true, decide_eq_true_eq, decide_eq_true_eq] at c
    split at h
    · cases h
    · cases h
      have := val_small c.2.2 c.2.1
      rw [Int.natAbs_natCast]
      exact Nat.le_trans this (by decide)
  · cases h
theorem num_at {K : PySem.W.Frag} {H : Hp} {n : Nat} (z : Str) : DatAt K (2 ^ 90) 5000 n H (valO (numO z)) (numD z) := by
  unfold numD
  cases e : numO z with
  | none => exact .lnon
  | some i => exact .lint (numO_le e)
theorem one_nought (c : Nat) : decide (V.str ⟨#[c]⟩ = V.str (Str.ofString "0")) = decide (c = 48) := by
  rw [dstr, show Str.ofString "0" = (⟨#[48]⟩ : Str) by decide +kernel]
  by_cases h : c = 48
  · rw [decide_eq_true h, h]
    exact decide_eq_true rfl
  · rw [decide_eq_false h]
    refine decide_eq_false fun e => h ?_
    injection e with e
    have := congrArg (·.toList) e
    simpa using this
theorem head_of {z : Str} (h : 1 ≤ z.length) : ∃ c, z.cps.toList[0]? = some c ∧ (cs z).head? = some c := by
  have hl := cs_len' z
  cases e : cs z with
  | nil =>
    rw [e] at hl
    simp at hl
    omega
  | cons c r => exact ⟨c, by rw [show z.cps.toList = c :: r from e]; rfl, rfl⟩
theorem pstr {K : PySem.W.Frag} {H : Hp} {n : Nat} : ∀ {zs : List Str}, (∀ z ∈ zs, z.length ≤ 5000) → Paired (DatAt K (2 ^ 90) 5000 n H) (zs.map V.str) (zs.map Dat.str)
  | [], _ => .nil
  | z :: zs, h => .cons (.lstr (h z List.mem_cons_self)) (pstr fun y hy => h y (List.mem_cons_of_mem _ hy))
theorem pnum {K : PySem.W.Frag} {H : Hp} {n : Nat} : ∀ (zs : List Str), Paired (DatAt K (2 ^ 90) 5000 n H) (zs.map fun z => valO (numO z)) (zs.map numD)
  | [] => .nil
  | z :: zs => .cons (num_at z) (pnum zs)
theorem join_mem {y : Str} : ∀ {ys : List Str} {z : Str}, z ∈ ys → z.length ≤ (Str.join y ys).length
  | [], _, h => nomatch h
  | [x], z, h => by
    rw [List.mem_singleton.mp h]
    exact Nat.le_refl _
  | x :: x' :: r, z, h => by
    show z.length ≤ (x ++ y ++ Str.join y (x' :: r)).length
    rw [Str.length_append, Str.length_append]
    rcases List.mem_cons.mp h with rfl | h
    · omega
    · have := join_mem (y := y) h
      omega
theorem split_mem {x y z : Str} (h : z ∈ Txt.split x y) : z.length ≤ x.length := by
  have := join_mem (y := y) h
  rw [StrLaws.join_split] at this
  exact this
theorem sqlS {K : PySem.W.Frag} {H H' : Hp} {a : Addr} {xs : List V} (h : SqL K H a xs) (s : Same H H') : SqL K H' a xs := by
  rcases h with (h | ⟨o, h⟩) | h
  · exact .inl (.inl (s _ _ h))
  · exact .inl (.inr ⟨o, s _ _ h⟩)
  · exact .inr h
/-- words of a text -/
structure Wds (ws : List Str) : Prop where
  ne : 1 ≤ ws.length
  le : ws.length ≤ 4800
  sm : ∀ z ∈ ws, z.length ≤ 4800
theorem split_wds {z : Str} (h : z.length ≤ 4000) : Wds (Txt.split z blk) := ⟨PyProof.Rows.split_pos z blk, by have := PyProof.Rows.split_le z blk; omega, fun y hy => by have := split_mem hy; omega⟩
def rdD : Dat → Dat
  | .str z => rdQ (Txt.split z blk)
  | _ => .non
section
variable {P : Program} {w : World} {K : PySem.W.Frag} {mg : Str → Option Value} {base : Heap}
/-! _number -/
def spNumber : Sp := fun vs H Q _ => ∃ z : Str, vs = [.str z] ∧ z.length ≤ 5000 ∧ ∀ H', Same H H' → Q (valO (numO z)) H'
theorem ok_number (T : Blt mg) (cD : Cst mg "MOST_DIGITS" (.int 12)) (d : DnNumber K mg) : FnOk P w K mg base CX0 1 d.f d.fd ["word"] spNumber := by
  refine d.F.ok scP_number (fun vs H Q E h => ?_) (fun cdv A outer s H vs Q E hr h => ?_)
  · obtain ⟨z, rfl, _⟩ := h
    rfl
  · obtain ⟨z, rfl, hz, q⟩ := h
    refine ⟨_, (pss_cons (ps_if (PW.pt (pw_or (pt_not (pt_chain op_le op_le pe_int (pe_callB call_len_str (by rfl) T.n_len (by decide +kernel) (pa_cons (pv 0) pa_nil)) (pe_glob rfl cD.g cD.r))) (pw_or1 (pt_not (pt_val (pe_callB (cr_all rfl) (by rfl) T.n_all (by decide +kernel) (pa_cons (pe_lc (own := [("sign", 1)]) (g := gName 1) (tt := tYes) rfl scP_number.nd (pi_str (pv 0)) (blkOk_by (N := NP_number) (sc := defScope sP_number) (by decide +kernel)) (fun _ _ _ _ _ => pg_name (i := 1) scP_number.nd rfl (Or.inl rfl)) (fun _ _ _ _ _ => pts_nil) (fun _ _ _ _ _ => (pe_chain op_le_str op_le_str pe_str (pv 1) pe_str))) pa_nil)))))))
      (pss_one (ps_ret pe_non))
      pss_nil)
    (pss_one (ps_ret (pe_ifExp (PW.pt (pw_and (pt_cmpR op_gt (pe_callB call_len_str (by rfl) T.n_len (by decide +kernel) (pa_cons (pv 0) pa_nil)) pe_int (nomark _)) (pw_and1 (pt_cmpR op_eq (pe_ix ix_str (pv 0) pe_int (fun _ _ => rfl)) pe_str (nomark _))))) pe_non (pe_callTy call_int_str (by rfl) T.n_int (by decide +kernel) (pa_cons (pv 0) pa_nil)))))), ?_⟩
    have none_ : ∀ H', Same H H' → ¬ (1 ≤ z.length ∧ z.length ≤ 12 ∧ (cs z).all dgC = true) → Q .non H' := fun H' s n => by
      have := q H' s
      rw [numO_no n] at this
      exact this
    have hsz : z.length ≤ sizeLine := by rw [sizeLine_eq]; omega
    refine ⟨.str z, rfl, z, rfl, hsz, _, _, rfl, rfl, ?_⟩
    by_cases h1 : 1 ≤ z.length
    · refine ⟨true, congrArg V.bl (decide_eq_true (by omega)), iteT ⟨_, _, rfl, rfl, ?_⟩⟩
      by_cases h12 : z.length ≤ 12
      · refine ⟨true, congrArg V.bl (decide_eq_true (by omega)), iteF ⟨.str z, rfl, z, rfl, fun D nD => ?_⟩⟩
        refine lc_it walk_str (fun i H3 => Same H H3 ∧ H3 D = some (.lst (((cs z).take i).map fun c => V.bl (dgC c)))) ⟨same_upd nD, upd_same⟩ (fun _ _ _ _ => trivial) (fun i x H3 H4 hi h3 y => ?_) (fun H3 h3 => ?_)
        · obtain ⟨rfl, c, hc, rfl⟩ := y
          have hc2 : (cs z)[i]? = some c := by
            rw [← hc]
            simp [cs]
          have fin : ∃ xs, H4 D = some (.lst xs) ∧ xs.length + 1 ≤ sizeLine ∧ (Same H (upd H4 D (.lst (xs ++ [V.bl (dgC c)]))) ∧ (upd H4 D (.lst (xs ++ [V.bl (dgC c)]))) D = some (.lst (((cs z).take (i + 1)).map fun c => V.bl (dgC c)))) := by
            refine ⟨_, h3.2, ?_, fun b o e => ?_, ?_⟩
            · rw [List.length_map, List.length_take, sizeLine_eq]
              have := cs_len z
              omega
            · rw [upd_ne (ne_of_none e nD)]
              exact h3.1 b o e
            · rw [upd_same, List.take_add_one, hc2, List.map_append]
              rfl
          have e1 : (!decide ((cs ⟨#[c]⟩) < (Str.ofString "0").cps.toList)) = !decide (c < 48) := by
            rw [show (Str.ofString "0").cps.toList = [48] by decide +kernel]
            show (!decide ([c] < [48])) = _
            rw [lt_one]
          have e2 : (!decide ((Str.ofString "9").cps.toList < cs ⟨#[c]⟩)) = !decide (57 < c) := by
            rw [show (Str.ofString "9").cps.toList = [57] by decide +kernel]
            show (!decide ([57] < [c])) = _
            rw [lt_one]
          refine ⟨rfl, .str ⟨#[c]⟩, rfl, _, _, rfl, rfl, !decide (c < 48), congrArg V.bl e1, ite2 (fun ea => ⟨_, _, rfl, rfl, ?_⟩) (fun ea => ?_)⟩
          · have en : dgC c = !decide (57 < c) := by
              unfold dgC
              rw [ea, Bool.true_and]
            rw [en] at fin
            show ∃ xs, _
            rw [show (!decide ((Str.ofString "9").cps.toList < ([c] : List Nat))) = !decide (57 < c) from e2]
            exact fin
          · have en : dgC c = false := by
              unfold dgC
              rw [show (!decide (c < 48)) = false by simpa using ea, Bool.false_and]
            rw [en] at fin
            exact fin
        · refine ⟨D, (cs z).map dgC, rfl, sql ?_, ?_⟩
          · rw [h3.2, List.map_map]
            rw [List.take_of_length_le (by
              show (cs z).length ≤ z.cps.size
              simp [cs])]
            rfl
          · rw [show ((cs z).map dgC).all id = (cs z).all dgC by rw [List.all_map]; rfl]
            cases hall : (cs z).all dgC with
            | false => exact ⟨_, rfl, iteT (none_ H3 h3.1 fun h => by rw [hall] at h; cases h.2.2)⟩
            | true =>
              have q3 := q H3 h3.1
              rw [numO_yes h1 h12 hall] at q3
              refine ⟨_, rfl, iteF ⟨.str z, rfl, z, rfl, hsz, _, _, rfl, rfl, ?_⟩⟩
              by_cases h2 : 1 < z.length
              · rw [decide_eq_true h2, Bool.true_and] at q3
                obtain ⟨c, hc, hh⟩ := head_of h1
                refine ⟨true, congrArg V.bl (decide_eq_true (by omega)), iteT ⟨.str z, rfl, z, 0, c, rfl, rfl, hsz, atI_nat (j := 0) hc, rfl, decide (c = 48), congrArg V.bl (one_nought c), ?_⟩⟩
                rw [hh] at q3
                by_cases e : c = 48
                · rw [decide_eq_true e]
                  rw [e] at q3
                  exact iteT q3
                · rw [decide_eq_false e]
                  rw [decide_eq_false (fun z => e (by injection z))] at q3
                  exact iteF ⟨.str z, rfl, z, _, rfl, num_reads hall h1 h12, by omega, q3⟩
              · rw [decide_eq_false h2, Bool.false_and] at q3
                exact ⟨false, congrArg V.bl (decide_eq_false (by omega)), iteF ⟨.str z, rfl, z, _, rfl, num_reads hall h1 h12, by omega, q3⟩⟩
      · exact ⟨false, congrArg V.bl (decide_eq_false (by omega)), iteT (none_ H (Same.refl H) fun h => h12 h.2.1)⟩
    · exact ⟨false, congrArg V.bl (decide_eq_false (by omega)), iteF ⟨false, rfl, iteT (none_ H (Same.refl H) fun h => h1 h.1)⟩⟩
/-! _question -/
def spWords (K : PySem.W.Frag) : Sp := fun vs H Q _ => ∃ (a : Addr) (ws : List Str), vs = [.ref a] ∧ SqL K H a (ws.map V.str) ∧ Wds ws ∧ ∀ H' v, Same H H' → DtAt K H' v (rdQ ws) → Q v H'
theorem ok_words (T : Blt mg) (cL : Cst mg "LONGEST_NAME" (.int 8)) (cA : Cst mg "MOST_ASKED" (.int 40)) (cD : Cst mg "MOST_DIGITS" (.int 12)) (n_zip : mg "zip" = none) (dP_is_int : DnIsInt K mg) (dP_is_name : DnIsName K mg) (dP_is_lot : DnIsLot K mg) (dP_is_question : DnIsQuestion K mg) (dP_number : DnNumber K mg) (d : DnWordsQuestion K mg) : FnOk P w K mg base CX0 4 d.f d.fd ["words"] (spWords K) := by
  have GP_is_question : FnOk P w K mg base CX0 3 dP_is_question.f dP_is_question.fd ["thing"] (spIsQuestionD K) := ok_is_questionD T cL cA n_zip dP_is_int dP_is_name dP_is_lot dP_is_question
  have GP_number : FnOk P w K mg base CX0 1 dP_number.f dP_number.fd ["word"] spNumber := ok_number T cD dP_number
  refine d.F.ok scP_question (fun vs H Q E h => ?_) (fun cdv A outer s H vs Q E hr h => ?_)
  · obtain ⟨a, ws, rfl, _⟩ := h
    rfl
  · obtain ⟨a, ws, rfl, hS, hw, q⟩ := h
    refine ⟨_, (pss_cons (ps_asg (pv 0) (pg_rest rfl (pg_name (i := 1) scP_question.nd rfl (Or.inl rfl)) (pg_name (i := 2) scP_question.nd rfl (Or.inl rfl))))
    (C8.pss_cut (ps_if (pt_cmpR op_eq (pv 1) pe_str (nomark _))
      (pss_one (ps_set (i := 3) scP_question.nd rfl (Or.inl rfl) (pe_tupF (pa_cons pe_str (pa_cons (pe_callTy call_tupleF (by rfl) T.n_tuple (by decide +kernel) (pa_cons (pv 2) pa_nil)) pa_nil)))))
      (pss_one (ps_if (pt_cmpR op_eq (pv 1) pe_str (nomark _))
        (pss_one (ps_set (i := 3) scP_question.nd rfl (Or.inl rfl) (pe_tupF (pa_cons pe_str (pa_star (pe_lc (own := [("part", 4)]) (g := gName 4) (tt := tYes) rfl scP_question.nd (pi_list (pv 2)) (blkOk_by (N := NP_question) (sc := defScope sP_question) (by decide +kernel)) (fun _ _ _ _ _ => pg_name (i := 4) scP_question.nd rfl (Or.inl rfl)) (fun _ _ _ _ _ => pts_nil) (fun _ _ _ _ _ => (pe_call GP_number (hr.mono (by omega)) (by rfl) dP_number.g dP_number.F.kp dP_number.b .nil pass0 (pa_cons (pv 4) pa_nil)))) pa_nil)))))
        (pss_one (ps_set (i := 3) scP_question.nd rfl (Or.inl rfl) (pe_callTy call_tupleF (by rfl) T.n_tuple (by decide +kernel) (pa_cons (pv 0) pa_nil)))))))
    (pss_one (ps_ret (pe_ifExp (pt_val (pe_call GP_is_question (hr.mono (by omega)) (by rfl) dP_is_question.g dP_is_question.F.kp dP_is_question.b .nil pass0 (pa_cons (pv 3) pa_nil))) (pv 3) pe_non))))), ?_⟩
    obtain ⟨wd, ps, rfl⟩ : ∃ wd ps, ws = wd :: ps := match ws, hw.ne with | wd :: ps, _ => ⟨wd, ps, rfl⟩
    refine ⟨.ref a, rfl, a, .str wd, ps.map V.str, rfl, hS, fun l nl => ?_⟩
    have s1 : Same H (upd H l (.lst (ps.map V.str))) := same_upd nl
    have hl : (upd H l (.lst (ps.map V.str))) l = some (.lst (ps.map V.str)) := upd_same
    generalize upd H l (.lst (ps.map V.str)) = H1 at s1 hl ⊢
    have hlen : ps.length ≤ 4800 := by have := hw.le; rw [List.length_cons] at this; omega
    have hsm : ∀ z ∈ ps, z.length ≤ 5000 := fun z hz => by have := hw.sm z (List.mem_cons_of_mem _ hz); omega
    have hs0 : wd.length ≤ 5000 := by have := hw.sm wd List.mem_cons_self; omega
    have S1 : SqL K H1 a ((wd :: ps).map V.str) := sqlS hS s1
    refine ⟨fun σ H3 => ∃ p, σ = [some (.ref a), some (.str wd), some (.ref l), some (.ref p), none] ∧ Same H H3 ∧ DtAt K H3 (.ref p) (rdC (wd :: ps)), ?_, ?_⟩
    · refine ⟨_, rfl, rfl, decide (wd = Str.ofString "lot"), congrArg V.bl (dstr _ _), ?_⟩
      rw [rdC_cons]
      by_cases e1 : wd = Str.ofString "lot"
      · rw [decide_eq_true e1, if_pos e1]
        refine iteT ⟨.ref l, rfl, l, _, rfl, sql hl, fun t o nt ho => ⟨(by show 2 ≤ sizeLine; decide), fun p o2 np ho2 => ?_⟩⟩
        have s2 : Same H1 (upd H1 t (.frz o (.tup (ps.map V.str)))) := same_upd nt
        have ht : Ptp (upd H1 t (.frz o (.tup (ps.map V.str)))) t (ps.map V.str) := ⟨o, upd_same, ho⟩
        generalize upd H1 t (.frz o (.tup (ps.map V.str))) = H2 at s2 ht np ⊢
        refine ⟨p, rfl, same_trans s1 (same_trans s2 (same_upd np)), 2, .ltup ⟨o2, upd_same, ho2⟩ (by show 2 ≤ 5000; decide) (.cons ?_ (.cons (.ltup (ht.same (same_upd np)) (by rw [List.length_map]; omega) (pstr hsm)) .nil))⟩
        rw [← e1]
        exact .lstr hs0
      · rw [decide_eq_false e1, if_neg e1]
        refine iteF ⟨_, rfl, rfl, decide (wd = Str.ofString "first"), congrArg V.bl (dstr _ _), ?_⟩
        by_cases e2 : wd = Str.ofString "first"
        · rw [decide_eq_true e2, if_pos e2]
          refine iteT ⟨.ref l, rfl, l, rfl, ⟨_, sql hl⟩, fun D nD => lc_list (xs := ps.map V.str) (fun i H3 => Same H1 H3 ∧ H3 D = some (.lst ((ps.take i).map fun z => valO (numO z)))) ⟨same_upd nD, upd_same⟩ (fun i H3 _ h3 => sql (h3.1 _ _ hl)) (fun i y H3 hy h4 => ?_) (fun H3 h4 => ?_)⟩
          · obtain ⟨z, he, rfl⟩ := map_at hy
            refine ⟨rfl, .str z, rfl, z, rfl, hsm z (List.mem_of_getElem? he), fun H4 s4 => ⟨_, s4 _ _ h4.2, ?_, fun b o e => ?_, ?_⟩⟩
            · rw [List.length_map, List.length_take, sizeLine_eq]
              omega
            · rw [upd_ne (ne_of_none e nD)]
              exact s4 b o (h4.1 b o e)
            · rw [upd_same, List.take_add_one, he, List.map_append]
              rfl
          · obtain ⟨s3, hD⟩ := h4
            rw [List.length_map, List.take_length] at hD
            refine ⟨D, _, rfl, .inr (sql hD), ?_, fun p o np ho => ?_⟩
            · show (V.str (Str.ofString "first") :: ((ps.map fun z => valO (numO z)) ++ [])).length ≤ sizeLine
              rw [List.append_nil, List.length_cons, List.length_map, sizeLine_eq]
              omega
            · refine ⟨p, rfl, same_trans s1 (same_trans s3 (same_upd np)), 1, .ltup (xs := V.str (Str.ofString "first") :: ((ps.map fun z => valO (numO z)) ++ [])) ⟨o, upd_same, ho⟩ ?_ ?_⟩
              · rw [List.append_nil, List.length_cons, List.length_map]
                omega
              · rw [List.append_nil]
                refine .cons ?_ (pnum ps)
                rw [← e2]
                exact .lstr hs0
        · rw [decide_eq_false e2, if_neg e2]
          refine iteF ⟨.ref a, rfl, a, _, rfl, S1, fun p o np ho => ?_⟩
          exact ⟨p, rfl, same_trans s1 (same_upd np), 1, .ltup ⟨o, upd_same, ho⟩ (by rw [List.length_map]; have := hw.le; omega) (pstr (zs := wd :: ps) fun z hz => by have := hw.sm z hz; omega)⟩
    · rintro σ H3 ⟨p, rfl, s3, hp⟩
      refine ⟨.ref p, rfl, .ref p, _, rfl, hp, fun H4 s4 => ⟨qnD (rdC (wd :: ps)), rfl, ?_⟩⟩
      have q4 := fun v => q H4 v (same_trans s3 s4)
      unfold rdQ at q4
      cases e : qnD (rdC (wd :: ps)) with
      | true =>
        refine iteT ⟨.ref p, rfl, q4 _ ?_⟩
        rw [if_pos e]
        exact hp.same s4
      | false =>
        refine iteF (q4 _ ?_)
        rw [if_neg (by rw [e]; decide)]
        exact ⟨0, .lnon⟩
/-! read_question -/
def spRead (K : PySem.W.Frag) : Sp := fun vs H Q _ => ∃ (v : V) (d : Dat), vs = [v] ∧ DtAt K H v d ∧ (∀ z, d = .str z → z.length ≤ 4000) ∧ ∀ H' v, Same H H' → DtAt K H' v (rdD d) → Q v H'
theorem ok_read (T : Blt mg) (cL : Cst mg "LONGEST_NAME" (.int 8)) (cA : Cst mg "MOST_ASKED" (.int 40)) (cD : Cst mg "MOST_DIGITS" (.int 12)) (n_zip : mg "zip" = none) (dP_is_int : DnIsInt K mg) (dP_is_name : DnIsName K mg) (dP_is_lot : DnIsLot K mg) (dP_is_question : DnIsQuestion K mg) (dP_number : DnNumber K mg) (dP_question : DnWordsQuestion K mg) (d : DnReadQuestion K mg) : FnOk P w K mg base CX0 5 d.f d.fd ["text"] (spRead K) := by
  have GP_question : FnOk P w K mg base CX0 4 dP_question.f dP_question.fd ["words"] (spWords K) := ok_words T cL cA cD n_zip dP_is_int dP_is_name dP_is_lot dP_is_question dP_number dP_question
  refine d.F.ok scP_read_question (fun vs H Q E h => ?_) (fun cdv A outer s H vs Q E hr h => ?_)
  · obtain ⟨v, x, rfl, _⟩ := h
    rfl
  · obtain ⟨v, x, rfl, hx, hz, q⟩ := h
    refine ⟨_, (pss_cons (ps_if (pt_not (pt_val (pe_callB (call_isD (K := K) rfl) (by rfl) T.n_isinstance (by decide +kernel) (pa_cons (pv 0) (pa_cons (pe_bltn (v := .ty "str") (by rfl) T.n_str (by decide +kernel) rfl) pa_nil)))))
      (pss_one (ps_ret pe_non))
      pss_nil)
    (pss_one (ps_ret (pe_call GP_question (hr.mono (by omega)) (by rfl) dP_question.g dP_question.F.kp dP_question.b .nil pass0 (pa_cons (pe_split (pv 0) pe_str) pa_nil))))), ?_⟩
    obtain ⟨t, ty, kI, kB, kS, kT⟩ := hx.ty
    refine ⟨v, rfl, v, _, t, _, isS x, rfl, .ty "str", ty, kS, isS x, rfl, ?_⟩
    cases x with
    | str z =>
      obtain ⟨rfl, _⟩ := hx.str
      have hl := hz z rfl
      refine iteF ⟨.str z, rfl, ⟨_, rfl⟩, z, blk, rfl, rfl, (by decide +kernel), (by rw [sizeLine_eq]; omega), fun p np => ⟨p, Txt.split z blk, rfl, sql upd_same, split_wds hl, fun H' v s => q H' v (same_trans (same_upd np) s)⟩⟩
    | _ => exact iteT (q H .non (Same.refl H) ⟨0, .lnon⟩)
end
end Kb

namespace Kb
open PySem PySem.Spec PyProof.Rows L2 SrtZ SrtO RZ StX
abbrev squestion_text : Stmt := topS 26
abbrev Nquestion_text : List Str := ["_law_question_here", "_law_words", "_law_part"]
theorem scquestion_text : FnScope ["_law_question_here", "_law_words", "_law_part"] ["_law_question_here"] (defScope squestion_text) := ⟨rfl, rfl, rfl, by decide +kernel, rfl, by decide +kernel, by decide +kernel⟩
abbrev Dnquestion_text (K : PySem.W.Frag) (mg : Str → Option Value) := Dn K mg "_law_question_text" squestion_text ["_law_question_here"]
abbrev snumber_of : Stmt := topS 28
abbrev Nnumber_of : List Str := ["_law_word", "_law_sign"]
theorem scnumber_of : FnScope ["_law_word", "_law_sign"] ["_law_word"] (defScope snumber_of) := ⟨rfl, rfl, rfl, by decide +kernel, rfl, by decide +kernel, by decide +kernel⟩
abbrev Dnnumber_of (K : PySem.W.Frag) (mg : Str → Option Value) := Dn K mg "_law_number_of" snumber_of ["_law_word"]
abbrev sread_question : Stmt := topS 29
abbrev Nread_question : List Str := ["_law_text", "_law_words", "_law_names", "_law_word", "_law_number", "_law_name"]
theorem scread_question : FnScope ["_law_text", "_law_words", "_law_names", "_law_word", "_law_number", "_law_name"] ["_law_text"] (defScope sread_question) := ⟨rfl, rfl, rfl, by decide +kernel, rfl, by decide +kernel, by decide +kernel⟩
abbrev Dnread_question (K : PySem.W.Frag) (mg : Str → Option Value) := Dn K mg "_law_read_question" sread_question ["_law_text"]

theorem dig_mem (c : Nat) : decide (c ∈ (Str.ofString "0123456789").cps.toList) = dgC c := by
  rw [show (Str.ofString "0123456789").cps.toList = (List.range 10).map (48 + ·) by decide +kernel]
  unfold dgC
  by_cases h1 : c < 48
  · rw [decide_eq_true h1]
    refine decide_eq_false fun h => ?_
    obtain ⟨i, _, hi⟩ := List.mem_map.mp h
    omega
  · rw [decide_eq_false h1]
    by_cases h2 : 57 < c
    · rw [decide_eq_true h2]
      refine decide_eq_false fun h => ?_
      obtain ⟨i, h3, hi⟩ := List.mem_map.mp h
      have := List.mem_range.mp h3
      omega
    · rw [decide_eq_false h2]
      refine decide_eq_true (List.mem_map.mpr ⟨c - 48, List.mem_range.mpr (by omega), by omega⟩)
theorem nought_of {z : Str} : z = Str.ofString "0" ↔ z.length = 1 ∧ (cs z).head? = some 48 := by
  constructor
  · rintro rfl
    decide +kernel
  · rintro ⟨h1, h2⟩
    have hl := cs_len' z
    cases e : cs z with
    | nil => rw [e] at h2; cases h2
    | cons c r =>
      rw [e] at hl h2
      rw [List.length_cons] at hl
      have hr : r = [] := List.length_eq_zero_iff.mp (by omega)
      cases h2
      subst hr
      obtain ⟨a⟩ := z
      have ea : a.toList = [48] := e
      have : a = #[48] := by rw [← Array.toList_inj, ea]
      rw [this]
      decide +kernel
/-! the question of words, case by case -/
theorem strs_all (ps : List Str) : (ps.map Dat.str).all nameD = ps.all nmB := by
  rw [List.all_map]
  rfl
theorem strs_strD (ps : List Str) : (ps.map Dat.str).map strD = ps := by
  rw [List.map_map]
  exact List.map_id ps
theorem rdQ_gen {w : Str} (h1 : ¬ w = Str.ofString "lot") (h2 : ¬ w = Str.ofString "first") (ps : List Str) :
    rdQ (w :: ps) = if (decide ((ps.length : Int) = dueI w) && (ps.all nmB && decide (dueI w = 2 → strD ((ps.map Dat.str).getD 0 .non) ≠ strD ((ps.map Dat.str).getD 1 .non)))) = true then .tup (.str w :: ps.map .str) else .non := by
  unfold rdQ
  rw [rdC_cons, if_neg h1, if_neg h2]
  show (if qnP w (ps.map .str) = true then _ else _) = _
  rw [qnP_due h2 h1, List.length_map, strs_all]
theorem rdQ_none {w : Str} (c : w = Str.ofString "unlike" ∨ w = Str.ofString "squares") (ps : List Str) : rdQ (w :: ps) = if ps.length = 0 then .tup [.str w] else .non := by
  have hd : dueI w = 0 := by rcases c with rfl | rfl <;> decide +kernel
  rw [rdQ_gen (fun z => by rcases c with rfl | rfl <;> exact absurd z (by decide +kernel)) (fun z => by rcases c with rfl | rfl <;> exact absurd z (by decide +kernel)), hd]
  cases ps with
  | nil => rfl
  | cons p r => rw [if_neg (by rw [decide_eq_false (show ¬ (((p :: r).length : Nat) : Int) = 0 by rw [List.length_cons]; omega), Bool.false_and]; decide), if_neg (by rw [List.length_cons]; omega)]
theorem rdQ_first (ps : List Str) : rdQ (Str.ofString "first" :: ps) = if ps.length = 1 then (if wiB 1 40 (numO (ps.getD 0 (Str.ofString ""))) = true then .tup [.str (Str.ofString "first"), numD (ps.getD 0 (Str.ofString ""))] else .non) else .non := by
  unfold rdQ
  rw [rdC_cons, if_neg (show ¬ Str.ofString "first" = Str.ofString "lot" by decide +kernel), if_pos rfl]
  show (if qnP (Str.ofString "first") (ps.map numD) = true then _ else _) = _
  rw [qnP_first rfl, List.length_map]
  by_cases hl : ps.length = 1
  · obtain ⟨p, rfl⟩ : ∃ p, ps = [p] := match ps, hl with | [p], _ => ⟨p, rfl⟩
    rw [if_pos hl, decide_eq_true hl, Bool.true_and]
    show (if wiB 1 40 (intD (numD p)) = true then _ else _) = (if wiB 1 40 (numO p) = true then _ else _)
    rw [show intD (numD p) = numO p by unfold numD; cases numO p <;> rfl]
    rfl
  · rw [if_neg hl, decide_eq_false hl, Bool.false_and, if_neg (by decide)]
theorem rdQ_lot (ps : List Str) : rdQ (Str.ofString "lot" :: ps) = if (decide (ps.length ≤ 40) && (ps.all nmB && chainR ps)) = true then .tup [.str (Str.ofString "lot"), .tup (ps.map .str)] else .non := by
  unfold rdQ
  rw [rdC_cons, if_pos rfl]
  show (if qnP (Str.ofString "lot") [.tup (ps.map .str)] = true then _ else _) = _
  rw [qnP_lot rfl]
  show (if (true && (decide ((ps.map Dat.str).length ≤ 40) && ((ps.map Dat.str).all nameD && chainR ((ps.map Dat.str).map strD)))) = true then _ else _) = _
  rw [Bool.true_and, List.length_map, strs_all, strs_strD]
theorem rdQ_bad {w : Str} (c : ¬ (w = Str.ofString "unlike" ∨ w = Str.ofString "squares")) (h2 : ¬ w = Str.ofString "first") {ps : List Str} (h : ps.all nmB = false) : rdQ (w :: ps) = .non := by
  by_cases h1 : w = Str.ofString "lot"
  · rw [h1, rdQ_lot, h, Bool.false_and, Bool.and_false, if_neg (by decide)]
  · rw [rdQ_gen h1 h2, h, Bool.false_and, Bool.and_false, if_neg (by decide)]
theorem rdQ_one {w : Str} (c : w = Str.ofString "count" ∨ w = Str.ofString "place") {ps : List Str} (h : ps.all nmB = true) : rdQ (w :: ps) = if ps.length = 1 then .tup (.str w :: ps.map .str) else .non := by
  have hd : dueI w = 1 := if_pos c
  rw [rdQ_gen (fun z => by rcases c with rfl | rfl <;> exact absurd z (by decide +kernel)) (fun z => by rcases c with rfl | rfl <;> exact absurd z (by decide +kernel)), hd, h, Bool.true_and, show decide ((1 : Int) = 2 → strD ((ps.map Dat.str).getD 0 .non) ≠ strD ((ps.map Dat.str).getD 1 .non)) = true from decide_eq_true (fun z => absurd z (by decide)), Bool.and_true]
  by_cases hl : ps.length = 1
  · rw [if_pos hl, if_pos (decide_eq_true (by omega))]
  · rw [if_neg hl, if_neg (by rw [decide_eq_false (by omega)]; decide)]
theorem rdQ_two {ps : List Str} (h : ps.all nmB = true) : rdQ (Str.ofString "apart" :: ps) = if (decide (ps.length = 2) && !decide (ps.getD 0 (Str.ofString "") = ps.getD 1 (Str.ofString ""))) = true then .tup (.str (Str.ofString "apart") :: ps.map .str) else .non := by
  have hd : dueI (Str.ofString "apart") = 2 := by decide +kernel
  rw [rdQ_gen (by decide +kernel) (by decide +kernel), hd, h, Bool.true_and]
  have e : (decide ((ps.length : Int) = 2) && decide ((2 : Int) = 2 → strD ((ps.map Dat.str).getD 0 .non) ≠ strD ((ps.map Dat.str).getD 1 .non))) = (decide (ps.length = 2) && !decide (ps.getD 0 (Str.ofString "") = ps.getD 1 (Str.ofString ""))) := by
    by_cases hl : ps.length = 2
    · obtain ⟨p, r, rfl⟩ : ∃ p r, ps = [p, r] := match ps, hl with | [p, r], _ => ⟨p, r, rfl⟩
      show (true && decide ((2 : Int) = 2 → p ≠ r)) = (true && !decide (p = r))
      by_cases e : p = r
      · rw [decide_eq_true e, decide_eq_false (fun z => z rfl e)]
        rfl
      · rw [decide_eq_false e, decide_eq_true (fun _ => e)]
        rfl
    · rw [decide_eq_false hl, decide_eq_false (show ¬ (ps.length : Int) = 2 by omega), Bool.false_and, Bool.false_and]
  rw [e]
theorem rdQ_oth {w : Str} (c1 : ¬ (w = Str.ofString "unlike" ∨ w = Str.ofString "squares")) (c2 : ¬ w = Str.ofString "first") (c3 : ¬ (w = Str.ofString "count" ∨ w = Str.ofString "place")) (c4 : ¬ w = Str.ofString "apart") (c5 : ¬ w = Str.ofString "lot") (ps : List Str) : rdQ (w :: ps) = .non := by
  have hd : dueI w = -1 := by
    unfold dueI
    rw [if_neg c3, if_neg c4, if_neg c1]
  rw [rdQ_gen c5 c2, hd, decide_eq_false (show ¬ (ps.length : Int) = -1 by omega), Bool.false_and, if_neg (by decide)]
section
variable {P : Program} {w : World} {K : PySem.W.Frag} {mg : Str → Option Value} {base : Heap}
/-! _law_question_text -/
theorem ok_qtextL (T : Blt mg) (d : Dnquestion_text K mg) : FnOk P w K mg base CX0 1 d.f d.fd ["_law_question_here"] (spQtext K) := by
  refine d.F.ok scquestion_text (fun vs H Q E h => ?_) (fun cdv A outer s H vs Q E hr h => ?_)
  · obtain ⟨v, x, rfl, _⟩ := h
    rfl
  · obtain ⟨v, x, rfl, hx, hq, q⟩ := h
    refine ⟨_, (pss_cons (ps_set (i := 1) scquestion_text.nd rfl (Or.inl rfl) (pe_lst (pa_cons (pe_ix ix_tup (pv 0) pe_int (fun _ _ => rfl)) pa_nil)))
    (pss_cons (ps_for PassesOwn.never rfl (pi_tup (pe_slice sl_tupP (pv 0) (po_some pe_int) po_none)) (pg_name (i := 2) scquestion_text.nd rfl (Or.inl rfl))
      (pss_one (ps_set (i := 1) scquestion_text.nd rfl (Or.inl rfl) (pe_op op_cat (pv 1) (pe_ifExp (pt_not (pt_val (pe_callB (call_isD (K := K) rfl) (by rfl) T.n_isinstance (by decide +kernel) (pa_cons (pv 2) (pa_cons (pe_bltn (v := .ty "tuple") (by rfl) T.n_tuple (by decide +kernel) rfl) pa_nil))))) (pe_lst (pa_cons (pe_callTy (CallR.or call_str_int SkE.call_str_str) (by rfl) T.n_str (by decide +kernel) (pa_cons (pv 2) pa_nil)) pa_nil)) (pe_callTy call_list_of (by rfl) T.n_list (by decide +kernel) (pa_cons (pv 2) pa_nil)))))))
    (pss_one (ps_ret (pe_join pe_str (pv 1)))))), ?_⟩
    obtain ⟨wd, ps, rfl, hv⟩ := qn_view hq
    obtain ⟨a, xs, rfl, h1, h2, h3⟩ := hx.tup
    have hl := Paired.length h3
    obtain ⟨x0, xs, rfl⟩ : ∃ y ys, xs = y :: ys := match xs, hl with | y :: ys, _ => ⟨y, ys, rfl⟩
    have f0 : DtAt K H x0 (.str wd) := by cases h3 with | cons e _ => exact e
    have h3t : Paired (DtAt K H) xs ps := by cases h3 with | cons _ e => exact e
    obtain ⟨rfl, _⟩ := f0.str
    have hfit := qtx_fit hv
    have hqw := (qws_wd hv).2
    refine ⟨.ref a, rfl, a, _, _, _, rfl, rfl, h1.seq, atI_nat (j := 0) rfl, (by show 1 ≤ sizeLine; decide), fun l nl => ?_⟩
    have s1 : Same H (upd H l (.lst [.str wd])) := same_upd nl
    have hL : (upd H l (.lst [.str wd])) l = some (.lst [.str wd]) := upd_same
    generalize upd H l (.lst [.str wd]) = H1 at s1 hL ⊢
    refine ⟨.ref a, rfl, 1, rfl, a, _, rfl, h1.same s1, fun p H2 s2 hp => ?_⟩
    rw [show cutV (V.str wd :: xs) (some 1) none = (V.str wd :: xs).drop 1 from cut_rest (b := 1)] at hp
    have hp : Ptp H2 p xs := hp
    have s02 := same_trans s1 s2
    have wl : ∀ i, ((wd :: ((ps.take i).map partW).flatten).map V.str).length ≤ 41 := fun i => by
      refine Nat.le_trans ?_ hqw
      show _ ≤ (wd :: (ps.map partW).flatten).length
      rw [List.length_map, List.length_cons, List.length_cons]
      have e : ps.map partW = (ps.take i).map partW ++ (ps.drop i).map partW := by rw [← List.map_append, List.take_append_drop]
      rw [e, List.flatten_append, List.length_append]
      omega
    refine ⟨p, rfl, ⟨_, hp.seq⟩, for_tup (xs := xs) (fun i σ H3 => ∃ (lw : Addr) (x : Option V), σ = [some (.ref a), some (.ref lw), x] ∧ Same H2 H3 ∧ H3 lw = some (.lst ((wd :: ((ps.take i).map partW).flatten).map V.str))) ⟨l, none, rfl, Same.refl H2, s2 _ _ hL⟩ (fun i σ H3 _ ⟨_, _, _, s3, _⟩ => (hp.same s3).seq) ?_ ?_⟩
    · rintro i v σ H3 hi ⟨lw, x, rfl, s3, hlw⟩
      obtain ⟨e, he, hat⟩ := paired_at h3t hi
      have hat3 : DtAt K H3 v e := hat.same (same_trans s02 s3)
      have fin : ∀ (H5 : Hp) (b p2 : Addr) (zs : List Str), partW e = zs → Same H3 H5 → H5 p2 = none → ∃ (lw' : Addr) (x' : Option V), [some (V.ref a), some (V.ref p2), some v] = [some (V.ref a), some (V.ref lw'), x'] ∧ Same H2 (upd H5 p2 (.lst ((wd :: ((ps.take i).map partW).flatten).map V.str ++ zs.map V.str))) ∧ (upd H5 p2 (.lst ((wd :: ((ps.take i).map partW).flatten).map V.str ++ zs.map V.str))) lw' = some (.lst ((wd :: ((ps.take (i + 1)).map partW).flatten).map V.str)) := fun H5 b p2 zs ez s5 n2 => by
        refine ⟨p2, _, rfl, Same.new (same_trans s3 s5) n2, upd_same.trans ?_⟩
        rw [List.take_add_one, he, List.map_append, List.flatten_append, ← ez, ← List.map_append]
        show some (HO.lst (((wd :: ((ps.take i).map partW).flatten) ++ partW e).map V.str)) = some (HO.lst ((wd :: (((ps.take i).map partW).flatten ++ (partW e ++ []))).map V.str))
        rw [List.append_nil]
        rfl
      obtain ⟨t, ty, kI, kB, kS, kT⟩ := hat3.ty
      have len1 := wl i
      have len2 := wl (i + 1)
      have len3 : ((wd :: ((ps.take i).map partW).flatten).map V.str).length + (partW e).length ≤ 41 := by
        refine Nat.le_trans (Nat.le_of_eq ?_) len2
        rw [List.take_add_one, he, List.map_append, List.flatten_append]
        show _ = ((wd :: (((ps.take i).map partW).flatten ++ (partW e ++ []))).map V.str).length
        rw [List.append_nil, List.length_map, List.length_map, List.length_cons, List.length_cons, List.length_append]
        omega
      refine ⟨.ref lw, rfl, v, rfl, v, _, t, _, isT e, rfl, .ty "tuple", ty, kT, isT e, rfl, ?_⟩
      cases e with
      | tup ks =>
        obtain ⟨b, ys, rfl, k1, k2, k3⟩ := hat3.tup
        have hn : ks.all nameD = true := by
          cases hv with
          | lot ks' hk =>
            cases i with
            | zero => cases he; exact (lot_parts hk).2.1
            | succ i => cases he
          | fst j a b =>
            cases i with
            | zero => cases he
            | succ i => cases he
          | none c => cases he
          | one c h =>
            cases i with
            | zero => cases he; cases h
            | succ i => cases he
          | two a b c =>
            cases i with
            | zero => cases he; cases a
            | succ i => cases i with
              | zero => cases he; cases b
              | succ i => cases he
        obtain ⟨exs, _⟩ := strs_of k3 hn
        subst exs
        refine iteF ⟨.ref b, rfl, b, _, rfl, .inr k1.seq, fun l2 nl2 => ⟨lw, l2, _, (ks.map strD).map V.str, rfl, rfl, (by rw [upd_ne (ne_of_none hlw nl2)]; exact hlw), upd_same, ?_, fun p2 n2 => fin _ b p2 (ks.map strD) rfl (same_upd nl2) n2⟩⟩
        show _ + ((ks.map strD).map V.str).length ≤ sizeLine
        have : (partW (.tup ks)).length = (ks.map strD).length := rfl
        rw [List.length_map (f := V.str) (as := ks.map strD), sizeLine_eq]
        omega
      | int j =>
        obtain ⟨rfl, _⟩ := hat3.int
        have hj : 1 ≤ j ∧ j ≤ 40 := by
          cases hv with
          | lot ks' hk =>
            cases i with
            | zero => cases he
            | succ i => cases he
          | fst j a b =>
            cases i with
            | zero => cases he; exact ⟨a, b⟩
            | succ i => cases he
          | none c => cases he
          | one c h =>
            cases i with
            | zero => cases he; cases h
            | succ i => cases he
          | two a b c =>
            cases i with
            | zero => cases he; cases a
            | succ i => cases i with
              | zero => cases he; cases b
              | succ i => cases he
        refine iteT ⟨.int j, rfl, .inl ⟨j, rfl, log_small hj.1 hj.2, (by show 1 ≤ sizeLine; decide), fun l2 nl2 => ⟨lw, l2, _, [.str (itx j)], rfl, rfl, (by rw [upd_ne (ne_of_none hlw nl2)]; exact hlw), upd_same, ?_, fun p2 n2 => fin _ lw p2 [itx j] rfl (same_upd nl2) n2⟩⟩⟩
        show _ + 1 ≤ sizeLine
        rw [sizeLine_eq]
        omega
      | str z =>
        obtain ⟨rfl, _⟩ := hat3.str
        refine iteT ⟨.str z, rfl, .inr ⟨z, rfl, (by show 1 ≤ sizeLine; decide), fun l2 nl2 => ⟨lw, l2, _, [.str z], rfl, rfl, (by rw [upd_ne (ne_of_none hlw nl2)]; exact hlw), upd_same, ?_, fun p2 n2 => fin _ lw p2 [z] rfl (same_upd nl2) n2⟩⟩⟩
        show _ + 1 ≤ sizeLine
        rw [sizeLine_eq]
        omega
      | _ =>
        exfalso
        cases hv with
        | lot ks' hk =>
          cases i with
          | zero => cases he
          | succ i => cases he
        | fst j a b =>
          cases i with
          | zero => cases he
          | succ i => cases he
        | none c => cases he
        | one c h =>
          cases i with
          | zero => cases he; cases h
          | succ i => cases he
        | two a b c =>
          cases i with
          | zero => cases he; cases a
          | succ i => cases i with
            | zero => cases he; cases b
            | succ i => cases he
    · rintro σ H3 ⟨lw, x, rfl, s3, hlw⟩
      have hxl : xs.length = ps.length := Paired.length h3t
      rw [hxl, List.take_length] at hlw
      exact ⟨⟨_, rfl⟩, .ref lw, rfl, blk, lw, qws (.tup (.str wd :: ps)), rfl, rfl, .inl (sql hlw), by omega, q _ (same_trans s02 s3)⟩
/-! _law_number_of -/
theorem ok_numberL (T : Blt mg) (d : Dnnumber_of K mg) : FnOk P w K mg base CX0 1 d.f d.fd ["_law_word"] spNumber := by
  refine d.F.ok scnumber_of (fun vs H Q E h => ?_) (fun cdv A outer s H vs Q E hr h => ?_)
  · obtain ⟨z, rfl, _⟩ := h
    rfl
  · obtain ⟨z, rfl, hz, q⟩ := h
    refine ⟨_, (pss_cons (ps_if (PW.pt (pw_or (pt_not (pt_chain op_le op_le pe_int (pe_callB call_len_str (by rfl) T.n_len (by decide +kernel) (pa_cons (pv 0) pa_nil)) pe_int)) (pw_or1 (pt_not (pt_val (pe_callB (cr_all rfl) (by rfl) T.n_all (by decide +kernel) (pa_cons (pe_lc (own := [("_law_sign", 1)]) (g := gName 1) (tt := tYes) rfl scnumber_of.nd (pi_str (pv 0)) (blkOk_by (N := Nnumber_of) (sc := defScope snumber_of) (by decide +kernel)) (fun _ _ _ _ _ => pg_name (i := 1) scnumber_of.nd rfl (Or.inl rfl)) (fun _ _ _ _ _ => pts_nil) (fun _ _ _ _ _ => (pe_cmpR op_in_sign (pv 1) pe_str rfl))) pa_nil)))))))
      (pss_one (ps_ret pe_non))
      pss_nil)
    (pss_one (ps_ret (pe_ifExp (PW.pt (pw_or (pt_cmpR op_eq (pv 0) pe_str (nomark _)) (pw_or1 (pt_cmpR op_ne (pe_ix ix_str (pv 0) pe_int (fun _ _ => rfl)) pe_str (nomark _))))) (pe_callTy call_int_str (by rfl) T.n_int (by decide +kernel) (pa_cons (pv 0) pa_nil)) pe_non)))), ?_⟩
    have none_ : ∀ H', Same H H' → ¬ (1 ≤ z.length ∧ z.length ≤ 12 ∧ (cs z).all dgC = true) → Q .non H' := fun H' s n => by
      have := q H' s
      rw [numO_no n] at this
      exact this
    have hsz : z.length ≤ sizeLine := by rw [sizeLine_eq]; omega
    refine ⟨.str z, rfl, z, rfl, hsz, _, _, rfl, rfl, ?_⟩
    by_cases h1 : 1 ≤ z.length
    · refine ⟨true, congrArg V.bl (decide_eq_true (by omega)), iteT ⟨_, _, rfl, rfl, ?_⟩⟩
      by_cases h12 : z.length ≤ 12
      · refine ⟨true, congrArg V.bl (decide_eq_true (by omega)), iteF ⟨.str z, rfl, z, rfl, fun D nD => ?_⟩⟩
        refine lc_it walk_str (fun i H3 => Same H H3 ∧ H3 D = some (.lst (((cs z).take i).map fun c => V.bl (dgC c)))) ⟨same_upd nD, upd_same⟩ (fun _ _ _ _ => trivial) (fun i x H3 H4 hi h3 y => ?_) (fun H3 h3 => ?_)
        · obtain ⟨rfl, c, hc, rfl⟩ := y
          have hc2 : (cs z)[i]? = some c := by
            rw [← hc]
            simp [cs]
          refine ⟨rfl, .str ⟨#[c]⟩, rfl, c, _, rfl, rfl, ?_⟩
          rw [dig_mem]
          refine ⟨_, h3.2, ?_, fun b o e => ?_, ?_⟩
          · rw [List.length_map, List.length_take, sizeLine_eq]
            have := cs_len z
            omega
          · rw [upd_ne (ne_of_none e nD)]
            exact h3.1 b o e
          · rw [upd_same, List.take_add_one, hc2, List.map_append]
            rfl
        · refine ⟨D, (cs z).map dgC, rfl, sql ?_, ?_⟩
          · rw [h3.2, List.map_map]
            rw [List.take_of_length_le (by
              show (cs z).length ≤ z.cps.size
              simp [cs])]
            rfl
          · rw [show ((cs z).map dgC).all id = (cs z).all dgC by rw [List.all_map]; rfl]
            cases hall : (cs z).all dgC with
            | false => exact ⟨_, rfl, iteT (none_ H3 h3.1 fun h => by rw [hall] at h; cases h.2.2)⟩
            | true =>
              have q3 := q H3 h3.1
              rw [numO_yes h1 h12 hall] at q3
              have int_ : ¬ (1 < z.length ∧ (cs z).head? = some 48) → tCB (fun xs H Q => ∃ a n, xs = [.str a] ∧ PySem.intText? a = some n ∧ a.length ≤ 640 ∧ Q (.int n) H) (tCons (tVar 0) tNil) [some (.str z), none] H3 (fun v H' => Q v H') := fun n => by
                rw [if_neg (by rw [Bool.and_eq_true, decide_eq_true_eq, decide_eq_true_eq]; exact n)] at q3
                exact ⟨.str z, rfl, z, _, rfl, num_reads hall h1 h12, by omega, q3⟩
              refine ⟨_, rfl, iteF ⟨.str z, rfl, rfl, decide (z = Str.ofString "0"), congrArg V.bl (dstr _ _), ?_⟩⟩
              by_cases h0 : z = Str.ofString "0"
              · rw [decide_eq_true h0]
                exact iteT (int_ fun n => by have := (nought_of.mp h0).1; omega)
              · rw [decide_eq_false h0]
                obtain ⟨c, hc, hh⟩ := head_of h1
                refine iteF ⟨.str z, rfl, z, 0, c, rfl, rfl, hsz, atI_nat (j := 0) hc, rfl, !decide (c = 48), congrArg (fun b => V.bl (!b)) (one_nought c), ?_⟩
                by_cases e : c = 48
                · have h2 : 1 < z.length := by
                    refine Nat.lt_of_le_of_ne h1 fun hl => h0 (nought_of.mpr ⟨hl.symm, by rw [hh, e]⟩)
                  rw [decide_eq_true e]
                  rw [hh, e, decide_eq_true h2, decide_eq_true rfl] at q3
                  exact iteF q3
                · rw [decide_eq_false e]
                  exact iteT (int_ fun n => e (by have := hh.symm.trans n.2; injection this))
      · exact ⟨false, congrArg V.bl (decide_eq_false (by omega)), iteT (none_ H (Same.refl H) fun h => h12 h.2.1)⟩
    · exact ⟨false, congrArg V.bl (decide_eq_false (by omega)), iteF ⟨false, rfl, iteT (none_ H (Same.refl H) fun h => h1 h.1)⟩⟩
end
end Kb

namespace Kb
open PySem PySem.Spec PyProof.Rows L2 SrtZ SrtO RZ StX
section
variable {P : Program} {w : World} {K : PySem.W.Frag} {mg : Str → Option Value} {base : Heap}
/-! _law_read_question -/
def spReadL (K : PySem.W.Frag) : Sp := fun vs H Q _ => ∃ z : Str, vs = [.str z] ∧ z.length ≤ 4000 ∧ ∀ H' v, Same H H' → DtAt K H' v (rdQ (Txt.split z blk)) → Q v H'
theorem ok_readL (T : Blt mg) (dis_name : Dnis_name K mg) (dnumber_of : Dnnumber_of K mg) (d : Dnread_question K mg) : FnOk P w K mg base CX0 2 d.f d.fd ["_law_text"] (spReadL K) := by
  have Gis_name : FnOk P w K mg base CX0 1 dis_name.f dis_name.fd ["_law_thing"] (spIsNameD K) := ok_is_nameL T dis_name
  have Gnumber_of : FnOk P w K mg base CX0 1 dnumber_of.f dnumber_of.fd ["_law_word"] spNumber := ok_numberL T dnumber_of
  refine d.F.ok scread_question (fun vs H Q E h => ?_) (fun cdv A outer s H vs Q E hr h => ?_)
  · obtain ⟨z, rfl, _⟩ := h
    rfl
  · obtain ⟨z, rfl, hz, q⟩ := h
    refine ⟨_, (pss_cons (ps_set (i := 1) scread_question.nd rfl (Or.inl rfl) (pe_split (pv 0) pe_str))
    (pss_cons (ps_par (i := 2) (j := 3) (by rfl) scread_question.nd rfl rfl (by decide) rfl rfl (pa_cons (pe_slice sl_list (pv 1) (po_some pe_int) po_none) (pa_cons (pe_ix ix_list (pv 1) pe_int (fun _ _ => rfl)) pa_nil)) (by rfl))
    (pss_cons (ps_if (pt_cmpR op_in_seq (pv 3) (pe_lst (pa_cons pe_str (pa_cons pe_str pa_nil))) rfl)
      (pss_one (ps_ret (pe_ifExp (pt_cmpR op_eq (pe_callB call_len_seq (by rfl) T.n_len (by decide +kernel) (pa_cons (pv 2) pa_nil)) pe_int (nomark _)) (pe_tupF (pa_cons (pv 3) pa_nil)) pe_non)))
      pss_nil)
    (pss_cons (ps_if (pt_cmpR op_eq (pv 3) pe_str (nomark _))
      (pss_cons (ps_set (i := 4) scread_question.nd rfl (Or.inl rfl) (pe_ifExp (pt_cmpR op_eq (pe_callB call_len_seq (by rfl) T.n_len (by decide +kernel) (pa_cons (pv 2) pa_nil)) pe_int (nomark _)) (pe_call Gnumber_of (hr.mono (by omega)) (by rfl) dnumber_of.g dnumber_of.F.kp dnumber_of.b .nil pass0 (pa_cons (pe_ix ix_list (pv 2) pe_int (fun _ _ => rfl)) pa_nil)) pe_non))
      (pss_one (ps_ret (pe_ifExp (PW.pt (pw_and (pt_cmpR op_notN (pv 4) pe_non (nomark _)) (pw_and1 (pt_chain op_le op_le pe_int (pv 4) pe_int)))) (pe_tupF (pa_cons pe_str (pa_cons (pv 4) pa_nil))) pe_non))))
      pss_nil)
    (pss_cons (ps_if (pt_not (pt_val (pe_callB (cr_all rfl) (by rfl) T.n_all (by decide +kernel) (pa_cons (pe_lc (own := [("_law_name", 5)]) (g := gName 5) (tt := tYes) rfl scread_question.nd (pi_list (pv 2)) (blkOk_by (N := Nread_question) (sc := defScope sread_question) (by decide +kernel)) (fun _ _ _ _ _ => pg_name (i := 5) scread_question.nd rfl (Or.inl rfl)) (fun _ _ _ _ _ => pts_nil) (fun _ _ _ _ _ => (pe_call Gis_name (hr.mono (by omega)) (by rfl) dis_name.g dis_name.F.kp dis_name.b .nil pass0 (pa_cons (pv 5) pa_nil)))) pa_nil))))
      (pss_one (ps_ret pe_non))
      pss_nil)
    (pss_cons (ps_if (pt_cmpR op_in_seq (pv 3) (pe_lst (pa_cons pe_str (pa_cons pe_str pa_nil))) rfl)
      (pss_one (ps_ret (pe_ifExp (pt_cmpR op_eq (pe_callB call_len_seq (by rfl) T.n_len (by decide +kernel) (pa_cons (pv 2) pa_nil)) pe_int (nomark _)) (pe_tupF (pa_cons (pv 3) (pa_cons (pe_ix ix_list (pv 2) pe_int (fun _ _ => rfl)) pa_nil))) pe_non)))
      pss_nil)
    (pss_cons (ps_if (pt_cmpR op_eq (pv 3) pe_str (nomark _))
      (pss_one (ps_ret (pe_ifExp (PW.pt (pw_and (pt_cmpR op_eq (pe_callB call_len_seq (by rfl) T.n_len (by decide +kernel) (pa_cons (pv 2) pa_nil)) pe_int (nomark _)) (pw_and1 (pt_cmpR op_ne (pe_ix ix_list (pv 2) pe_int (fun _ _ => rfl)) (pe_ix ix_list (pv 2) pe_int (fun _ _ => rfl)) (nomark _))))) (pe_tupF (pa_cons (pv 3) (pa_cons (pe_ix ix_list (pv 2) pe_int (fun _ _ => rfl)) (pa_cons (pe_ix ix_list (pv 2) pe_int (fun _ _ => rfl)) pa_nil)))) pe_non)))
      pss_nil)
    (pss_cons (ps_if (PW.pt (pw_or (pt_cmpR op_ne (pv 3) pe_str (nomark _)) (pw_or (pt_cmpR op_gt (pe_callB call_len_seq (by rfl) T.n_len (by decide +kernel) (pa_cons (pv 2) pa_nil)) pe_int (nomark _)) (pw_or1 (pt_cmpR (op_neD hr.units) (pv 2) (pe_callB (cr_sortedSS rfl) (by rfl) T.n_sorted (by decide +kernel) (pa_cons (pe_callTy (cr_setOfS rfl) (by rfl) T.n_set (by decide +kernel) (pa_cons (pv 2) pa_nil)) pa_nil)) (nomark _))))))
      (pss_one (ps_ret pe_non))
      pss_nil)
    (pss_one (ps_ret (pe_tupF (pa_cons pe_str (pa_cons (pe_callTy call_tupleF (by rfl) T.n_tuple (by decide +kernel) (pa_cons (pv 2) pa_nil)) pa_nil))))))))))))), ?_⟩
    refine ⟨.str z, rfl, ⟨_, rfl⟩, z, blk, rfl, rfl, (by decide +kernel), (by rw [sizeLine_eq]; omega), fun p np => ?_⟩
    have hw := split_wds hz
    generalize Txt.split z blk = ws at q hw ⊢
    obtain ⟨wd, ps, rfl⟩ : ∃ wd ps, ws = wd :: ps := match ws, hw.ne with | wd :: ps, _ => ⟨wd, ps, rfl⟩
    have hlen : ps.length ≤ 4800 := by have := hw.le; rw [List.length_cons] at this; omega
    have hsm : ∀ z ∈ ps, z.length ≤ 5000 := fun z hz => by have := hw.sm z (List.mem_cons_of_mem _ hz); omega
    have hs0 : wd.length ≤ 5000 := by have := hw.sm wd List.mem_cons_self; omega
    have none_ : rdQ (wd :: ps) = .non → ∀ {H'}, Same H H' → Q .non H' := fun e H' s => q H' .non s (by rw [e]; exact ⟨0, .lnon⟩)
    have tup_ : ∀ {xs : List V} {ds : List Dat} {H' : Hp} {k : Addr} {o : Obj}, rdQ (wd :: ps) = .tup ds → Same H H' → H' k = none → o.dict = none → Paired (DatAt K (2 ^ 90) 5000 1 H') xs ds → xs.length ≤ 5000 → Q (.ref k) (upd H' k (.frz o (.tup xs))) := fun e s nk ho p l =>
      q _ _ (same_trans s (same_upd nk)) (by rw [e]; exact ⟨2, .ltup ⟨_, upd_same, ho⟩ l (paired_imp (fun _ _ h => h.same (same_upd nk)) p)⟩)
    have s1 : Same H (upd H p (.lst ((wd :: ps).map V.str))) := same_upd np
    have hp : (upd H p (.lst ((wd :: ps).map V.str))) p = some (.lst ((wd :: ps).map V.str)) := upd_same
    generalize upd H p (.lst ((wd :: ps).map V.str)) = H1 at s1 hp ⊢
    refine ⟨.ref p, rfl, 1, rfl, p, _, rfl, sql hp, fun l nl => ?_⟩
    rw [show cutV ((wd :: ps).map V.str) (some 1) none = ps.map V.str from cut_rest (b := 1)]
    have s2 : Same H1 (upd H1 l (.lst (ps.map V.str))) := same_upd nl
    have hl2 : (upd H1 l (.lst (ps.map V.str))) l = some (.lst (ps.map V.str)) := upd_same
    generalize upd H1 l (.lst (ps.map V.str)) = H2 at s2 hl2 ⊢
    refine ⟨.ref p, rfl, p, _, _, _, rfl, rfl, sql (s2 _ _ hp), atI_nat (j := 0) rfl, _, _, rfl, ?_⟩
    refine ⟨.str wd, rfl, (by show 2 ≤ sizeLine; decide), fun t nt => ⟨t, _, rfl, .inl (sql upd_same), rfl, rfl, decide (wd = Str.ofString "unlike" ∨ wd = Str.ofString "squares"), congrArg V.bl (inV2 _ _ _), ?_⟩⟩
    have s3 : Same H2 (upd H2 t (.lst [.str (Str.ofString "unlike"), .str (Str.ofString "squares")])) := same_upd nt
    generalize upd H2 t (.lst [.str (Str.ofString "unlike"), .str (Str.ofString "squares")]) = H3 at s3 ⊢
    have hl3 := s3 _ _ hl2
    have s03 := same_trans s1 (same_trans s2 s3)
    have dl : ∀ {m : Nat} {b : Bool}, decide (ps.length = m) = b → V.bl (decide (V.int (((ps.map V.str).length : Nat) : Int) = V.int (m : Int))) = .bl b := fun h => congrArg V.bl (dlen.trans (by rw [List.length_map]; exact h))
    by_cases c1 : wd = Str.ofString "unlike" ∨ wd = Str.ofString "squares"
    · rw [decide_eq_true c1]
      refine iteT ⟨.ref l, rfl, l, _, rfl, .inl (sql hl3), rfl, ?_⟩
      by_cases hl0 : ps.length = 0
      · exact ⟨true, dl (m := 0) (decide_eq_true hl0), iteT ⟨.str wd, rfl, (by show 1 ≤ sizeLine; decide), fun k o nk ho => tup_ (by rw [rdQ_none c1, if_pos hl0]) s03 nk ho (.cons (.lstr hs0) .nil) (by show 1 ≤ 5000; decide)⟩⟩
      · exact ⟨false, dl (m := 0) (decide_eq_false hl0), iteF (none_ (by rw [rdQ_none c1, if_neg hl0]) s03)⟩
    rw [decide_eq_false c1]
    refine iteF ⟨.str wd, rfl, rfl, decide (wd = Str.ofString "first"), congrArg V.bl (dstr _ _), ?_⟩
    by_cases c2 : wd = Str.ofString "first"
    · rw [decide_eq_true c2]
      subst c2
      refine iteT ⟨.ref l, rfl, l, _, rfl, .inl (sql hl3), rfl, ?_⟩
      by_cases hl1 : ps.length = 1
      · obtain ⟨p0, rfl⟩ : ∃ p0, ps = [p0] := match ps, hl1 with | [p0], _ => ⟨p0, rfl⟩
        refine ⟨true, rfl, iteT ⟨.ref l, rfl, l, _, _, _, rfl, rfl, sql hl3, atI_nat (j := 0) rfl, p0, rfl, hsm p0 List.mem_cons_self, fun H4 s4 => ?_⟩⟩
        have s04 := same_trans s03 s4
        refine ⟨valO (numO p0), rfl, rfl, ?_⟩
        have er : rdQ [Str.ofString "first", p0] = if wiB 1 40 (numO p0) = true then .tup [.str (Str.ofString "first"), numD p0] else .non := rdQ_first [p0]
        cases e : numO p0 with
        | none => exact ⟨false, rfl, iteF (none_ (by rw [er, e]; rfl) s04)⟩
        | some i =>
          rw [e] at er
          have er : rdQ [Str.ofString "first", p0] = if (decide (1 ≤ i) && decide (i ≤ 40)) = true then .tup [.str (Str.ofString "first"), numD p0] else .non := er
          refine ⟨true, rfl, iteT ⟨.int i, rfl, _, _, rfl, rfl, decide (1 ≤ i), rfl, ?_⟩⟩
          by_cases a1 : 1 ≤ i
          · rw [decide_eq_true a1]
            refine iteT ⟨_, _, rfl, rfl, decide (i ≤ 40), rfl, ?_⟩
            by_cases a2 : i ≤ 40
            · rw [decide_eq_true a2]
              refine iteT ⟨.int i, rfl, (by show 2 ≤ sizeLine; decide), fun k o nk ho => tup_ (er.trans (if_pos (by rw [decide_eq_true a1, decide_eq_true a2]; rfl))) s04 nk ho (.cons (.lstr hs0) (.cons ?_ .nil)) (by show 2 ≤ 5000; decide)⟩
              have := num_at (K := K) (H := H4) (n := 1) p0
              rw [e] at this
              exact this
            · rw [decide_eq_false a2]
              exact iteF (none_ (er.trans (if_neg (by rw [decide_eq_false a2, Bool.and_false]; decide))) s04)
          · rw [decide_eq_false a1]
            exact iteF ⟨false, rfl, iteF (none_ (er.trans (if_neg (by rw [decide_eq_false a1, Bool.false_and]; decide))) s04)⟩
      · exact ⟨false, dl (m := 1) (decide_eq_false hl1), iteF ⟨.non, rfl, rfl, false, rfl, iteF (none_ (by rw [rdQ_first, if_neg hl1]) s03)⟩⟩
    rw [decide_eq_false c2]
    refine iteF ⟨.ref l, rfl, l, rfl, ⟨_, sql hl3⟩, fun D nD => lc_list (xs := ps.map V.str) (fun i H4 => Same H3 H4 ∧ H4 D = some (.lst ((ps.take i).map fun z => V.bl (nmB z)))) ⟨same_upd nD, upd_same⟩ (fun i H4 _ h4 => sql (h4.1 _ _ hl3)) (fun i y H4 hy h4 => ?_) (fun H4 h4 => ?_)⟩
    · obtain ⟨z1, he, rfl⟩ := map_at hy
      refine ⟨rfl, .str z1, rfl, .str z1, .str z1, rfl, ⟨0, .lstr (hsm z1 (List.mem_of_getElem? he))⟩, fun H5 s5 => ⟨_, s5 _ _ h4.2, ?_, fun b o e => ?_, ?_⟩⟩
      · rw [List.length_map, List.length_take, sizeLine_eq]
        omega
      · rw [upd_ne (ne_of_none e nD)]
        exact s5 b o (h4.1 b o e)
      · rw [upd_same, List.take_add_one, he, List.map_append]
        rfl
    obtain ⟨s4, hD⟩ := h4
    refine ⟨D, ps.map nmB, rfl, sql (by rw [hD, List.length_map, List.take_length, List.map_map]; rfl), ?_⟩
    rw [show (ps.map nmB).all id = ps.all nmB by rw [List.all_map]; rfl]
    have s04 := same_trans s03 s4
    have hl4 := s4 _ _ hl3
    cases hall : ps.all nmB with
    | false => exact ⟨_, rfl, iteT (none_ (rdQ_bad c1 c2 hall) s04)⟩
    | true =>
      refine ⟨_, rfl, iteF ⟨.str wd, rfl, (by show 2 ≤ sizeLine; decide), fun t nt => ⟨t, _, rfl, .inl (sql upd_same), rfl, rfl, decide (wd = Str.ofString "count" ∨ wd = Str.ofString "place"), congrArg V.bl (inV2 _ _ _), ?_⟩⟩⟩
      have s5 : Same H4 (upd H4 t (.lst [.str (Str.ofString "count"), .str (Str.ofString "place")])) := same_upd nt
      generalize upd H4 t (.lst [.str (Str.ofString "count"), .str (Str.ofString "place")]) = H5 at s5 ⊢
      have hl5 := s5 _ _ hl4
      have s05 := same_trans s04 s5
      by_cases c3 : wd = Str.ofString "count" ∨ wd = Str.ofString "place"
      · rw [decide_eq_true c3]
        refine iteT ⟨.ref l, rfl, l, _, rfl, .inl (sql hl5), rfl, ?_⟩
        have er := rdQ_one c3 hall
        by_cases hl1 : ps.length = 1
        · obtain ⟨p0, rfl⟩ : ∃ p0, ps = [p0] := match ps, hl1 with | [p0], _ => ⟨p0, rfl⟩
          exact ⟨true, rfl, iteT ⟨.str wd, rfl, .ref l, rfl, l, _, _, _, rfl, rfl, sql hl5, atI_nat (j := 0) rfl, (by show 2 ≤ sizeLine; decide), fun k o nk ho => tup_ (er.trans (if_pos rfl)) s05 nk ho (.cons (.lstr hs0) (.cons (.lstr (hsm p0 List.mem_cons_self)) .nil)) (by show 2 ≤ 5000; decide)⟩⟩
        · exact ⟨false, dl (m := 1) (decide_eq_false hl1), iteF (none_ (er.trans (if_neg hl1)) s05)⟩
      rw [decide_eq_false c3]
      refine iteF ⟨.str wd, rfl, rfl, decide (wd = Str.ofString "apart"), congrArg V.bl (dstr _ _), ?_⟩
      by_cases c4 : wd = Str.ofString "apart"
      · rw [decide_eq_true c4]
        subst c4
        refine iteT ⟨.ref l, rfl, l, _, rfl, .inl (sql hl5), rfl, ?_⟩
        have er := rdQ_two hall
        by_cases hl2' : ps.length = 2
        · obtain ⟨p0, p1, rfl⟩ : ∃ p0 p1, ps = [p0, p1] := match ps, hl2' with | [p0, p1], _ => ⟨p0, p1, rfl⟩
          have er : rdQ [Str.ofString "apart", p0, p1] = if (true && !decide (p0 = p1)) = true then .tup [.str (Str.ofString "apart"), .str p0, .str p1] else .non := er
          refine ⟨true, rfl, iteT ⟨.ref l, rfl, l, _, _, _, rfl, rfl, sql hl5, atI_nat (j := 0) rfl, .ref l, rfl, l, _, _, _, rfl, rfl, sql hl5, atI_nat (j := 1) rfl, rfl, !decide (p0 = p1), congrArg (fun b => V.bl (!b)) (dstr _ _), ?_⟩⟩
          by_cases e : p0 = p1
          · rw [decide_eq_true e]
            rw [decide_eq_true e] at er
            exact iteF (none_ (er.trans (if_neg (by decide))) s05)
          · rw [decide_eq_false e]
            rw [decide_eq_false e] at er
            exact iteT ⟨.str (Str.ofString "apart"), rfl, .ref l, rfl, l, _, _, _, rfl, rfl, sql hl5, atI_nat (j := 0) rfl, .ref l, rfl, l, _, _, _, rfl, rfl, sql hl5, atI_nat (j := 1) rfl, (by show 3 ≤ sizeLine; decide), fun k o nk ho => tup_ (er.trans (if_pos rfl)) s05 nk ho (.cons (.lstr hs0) (.cons (.lstr (hsm p0 List.mem_cons_self)) (.cons (.lstr (hsm p1 (List.mem_cons_of_mem _ List.mem_cons_self))) .nil))) (by show 3 ≤ 5000; decide)⟩
        · exact ⟨false, dl (m := 2) (decide_eq_false hl2'), iteF (none_ (er.trans (if_neg (by rw [decide_eq_false hl2', Bool.false_and]; decide))) s05)⟩
      rw [decide_eq_false c4]
      refine iteF ⟨.str wd, rfl, rfl, !decide (wd = Str.ofString "lot"), congrArg (fun b => V.bl (!b)) (dstr _ _), ?_⟩
      by_cases c5 : wd = Str.ofString "lot"
      · rw [decide_eq_true c5]
        subst c5
        have er := rdQ_lot ps
        rw [hall, Bool.true_and] at er
        refine iteF ⟨.ref l, rfl, l, _, rfl, .inl (sql hl5), _, _, rfl, rfl, ?_⟩
        rw [List.length_map]
        by_cases h40 : ps.length ≤ 40
        · rw [decide_eq_true h40, Bool.true_and] at er
          refine ⟨false, congrArg V.bl (decide_eq_false (by omega)), iteF ⟨.ref l, rfl, .ref l, rfl, l, ps, rfl, sql hl5, by omega, fun p2 n np hn => ?_⟩⟩
          have hnm : ∀ z ∈ ps, Nm z := fun z hz => nmB_nm.mp (List.all_eq_true.mp hall z hz)
          have hnl : n ≤ 40 := by
            have := dcz_le ps ps.length
            omega
          refine ⟨p2, _, n, rfl, upd_same, by omega, fun S l2 so hmem hSl nl2 => ?_⟩
          have ndS := dcz_nd hmem (by omega)
          have hmem2 : ∀ z, z ∈ S ↔ z ∈ ps := fun z => (hmem z).trans (hasZ_all _ z)
          have s7 : Same H5 (upd (upd H5 p2 _) l2 (.lst (S.map V.str))) := Same.new (same_upd np) nl2
          obtain ⟨l1, l2'⟩ := lay_strs hnm
          obtain ⟨l3, l4⟩ := lay_strs (zs := S) fun z hz => hnm z ((hmem2 z).mp hz)
          refine ⟨.list (ps.map PyData.str), .list (S.map PyData.str), .lst (sql (s7 _ _ hl5)) (dp_strs _), .lst (sql upd_same) (dp_strs _), ?_, ?_, !chainR ps, congrArg (fun b => V.bl (!b)) (asc_eq so ndS hmem2), ?_⟩
          · show (PyData.canLayAll0 (ps.map PyData.str) && decide (PyData.depthAll (ps.map PyData.str) + 1 ≤ 64)) = true
            rw [l1, l2']
            rfl
          · show (PyData.canLayAll0 (S.map PyData.str) && decide (PyData.depthAll (S.map PyData.str) + 1 ≤ 64)) = true
            rw [l3, l4]
            rfl
          · have hl7 := s7 _ _ hl5
            have s07 := same_trans s05 s7
            generalize upd (upd H5 p2 _) l2 (.lst (S.map V.str)) = H7 at hl7 s07 ⊢
            cases hch : chainR ps with
            | false =>
              rw [hch] at er
              exact iteT (none_ (er.trans (if_neg (by decide))) s07)
            | true =>
              rw [hch] at er
              refine iteF ⟨.ref l, rfl, l, _, rfl, sql hl7, fun t2 o nt2 ho => ⟨(by show 2 ≤ sizeLine; decide), fun k o2 nk ho2 => ?_⟩⟩
              exact tup_ (er.trans (if_pos rfl)) (same_trans s07 (same_upd nt2)) nk ho2 (.cons (.lstr hs0) (.cons (.ltup (n := 0) ⟨o, upd_same, ho⟩ (by rw [List.length_map]; omega) (pstr hsm)) .nil)) (by show 2 ≤ 5000; decide)
        · rw [decide_eq_false h40, Bool.false_and] at er
          exact ⟨true, congrArg V.bl (decide_eq_true (by omega)), iteT (none_ (er.trans (if_neg (by decide))) s05)⟩
      · rw [decide_eq_false c5]
        exact iteT (none_ (rdQ_oth c1 c2 c3 c4 c5 ps) s05)
end
end Kb

namespace L2
open PySem PySem.Spec PyProof.Rows
section
variable {X : Cx}
/-- 'text' * n -/
theorem op_times : OpR X (binaryOp .Mult) (fun x y H Q => ∃ z k, x = .str z ∧ y = .int k ∧ z.length ≤ 16 ∧ 0 ≤ k ∧ k ≤ 100000 ∧ Q (.str (Txt.mul z k)) H) := by
  intro pins s σ H x y v u Q I rx ry h
  obtain ⟨z, k, ex, ey, hz, h0, h1, q⟩ := h
  subst ex ey
  obtain ⟨tz, ez⟩ := rx
  obtain ⟨tk, ek⟩ := ry
  subst ez ek
  exact SB.mul (mulOk_of 16 100000 hz (by omega) (by omega) (by decide) (by decide)) fun t' j => ⟨.str _, H, I.tok j, ⟨_, rfl⟩, q⟩
end
theorem mul_zero' (z : Str) : Txt.mul z 0 = Str.empty := by
  unfold Txt.mul
  rw [if_pos (by decide)]
theorem mul_one' (z : Str) : Txt.mul z 1 = z := by
  unfold Txt.mul
  rw [if_neg (by decide), if_pos (by rfl)]
end L2

namespace Kb
open PySem PySem.Spec PyProof.Rows L2 SrtZ SrtO RZ StX
abbrev spool : Stmt := topS 24
abbrev Npool : List Str := ["_law_hand_here", "_law_many", "_law_letters", "_law_first", "_law_k"]
theorem scpool : FnScope ["_law_hand_here", "_law_many", "_law_letters", "_law_first", "_law_k"] ["_law_hand_here", "_law_many"] (defScope spool) := ⟨rfl, rfl, rfl, by decide +kernel, rfl, by decide +kernel, by decide +kernel⟩
abbrev Dnpool (K : PySem.W.Frag) (mg : Str → Option Value) := Dn K mg "_law_pool" spool ["_law_hand_here", "_law_many"]
abbrev sdeep : Stmt := topS 23
abbrev Ndeep : List Str := ["_law_many", "_law_found", "_law_turn"]
theorem scdeep : FnScope ["_law_many", "_law_found", "_law_turn"] ["_law_many"] (defScope sdeep) := ⟨rfl, rfl, rfl, by decide +kernel, rfl, by decide +kernel, by decide +kernel⟩
abbrev Dndeep (K : PySem.W.Frag) (mg : Str → Option Value) := Dn K mg "_law_deep" sdeep ["_law_many"]
abbrev sbent_text : Stmt := topS 30
abbrev Nbent_text : List Str := ["_law_hand_here", "_law_text", "_law_spot", "_law_way", "_law_words", "_law_at", "_law_some"]
theorem scbent_text : FnScope ["_law_hand_here", "_law_text", "_law_spot", "_law_way", "_law_words", "_law_at", "_law_some"] ["_law_hand_here", "_law_text"] (defScope sbent_text) := ⟨rfl, rfl, rfl, by decide +kernel, rfl, by decide +kernel, by decide +kernel⟩
abbrev Dnbent_text (K : PySem.W.Frag) (mg : Str → Option Value) := Dn K mg "_law_bent_text" sbent_text ["_law_hand_here", "_law_text"]
def S (l : List Nat) : Str := ⟨l.toArray⟩
theorem cs_S (l : List Nat) : cs (S l) = l := by simp [cs, S]
theorem cs_app (a b : Str) : cs (a ++ b) = cs a ++ cs b := by
  show ((a.cps ++ b.cps).toList) = _
  rw [Array.toList_append]
  rfl
theorem len_app (a b : Str) : (a ++ b).length = a.length + b.length := by
  rw [← cs_len, ← cs_len, ← cs_len, cs_app, List.length_append]
theorem abc_at : ∀ m : Fin 26, (Str.ofString "abcdefghijklmnopqrstuvwxyz").cps.toList[m.val]? = some (97 + m.val) := by decide +kernel
/-- a name of a pool -/
def pnm (P : List Nat) (k : Nat) : Str := S (P ++ [97 + k % 26] ++ if 25 < k then [97 + (k / 26 - 1)] else [])
theorem pnm_cs (P : List Nat) (k : Nat) : cs (pnm P k) = P ++ [97 + k % 26] ++ if 25 < k then [97 + (k / 26 - 1)] else [] := cs_S _
theorem pnm_inj {P : List Nat} {j k : Nat} (h : pnm P j = pnm P k) : j = k := by
  have h2 := congrArg cs h
  rw [pnm_cs, pnm_cs, List.append_assoc, List.append_assoc] at h2
  have h3 := List.append_cancel_left h2
  injection h3 with h4 h5
  by_cases hj : 25 < j
  · by_cases hk : 25 < k
    · rw [if_pos hj, if_pos hk] at h5
      injection h5 with h5
      omega
    · rw [if_pos hj, if_neg hk] at h5
      cases h5
  · by_cases hk : 25 < k
    · rw [if_neg hj, if_pos hk] at h5
      cases h5
    · omega
structure Pre (P : List Nat) : Prop where
  len : P.length ≤ 2
  abc : ∀ c ∈ P, 97 ≤ c ∧ c ≤ 122
  is : P = [] ∨ P = [113] ∨ P = [122, 121]
theorem nmC_of {c : Nat} (h1 : 97 ≤ c) (h2 : c ≤ 122) : nmC c = true := by
  unfold nmC
  rw [show decide (c < 97) = false from decide_eq_false (by omega), show decide (122 < c) = false from decide_eq_false (by omega)]
  rfl
theorem nm_of {z : Str} {l : List Nat} (e : cs z = l) (h1 : 1 ≤ l.length) (h8 : l.length ≤ 8) (h : ∀ c ∈ l, 97 ≤ c ∧ c ≤ 122) : Nm z := by
  have hl : z.length = l.length := by rw [← cs_len, e]
  refine ⟨by omega, by omega, fun c hc => ?_⟩
  rw [e] at hc
  exact nmC_of (h c hc).1 (h c hc).2
theorem pnm_abc {P : List Nat} {k : Nat} (hP : Pre P) (hk : k < 702) : ∀ c ∈ cs (pnm P k), 97 ≤ c ∧ c ≤ 122 := fun c hc => by
  rw [pnm_cs] at hc
  rcases List.mem_append.mp hc with hc | hc
  · rcases List.mem_append.mp hc with hc | hc
    · exact hP.abc c hc
    · rw [List.mem_singleton.mp hc]
      omega
  · by_cases h : 25 < k
    · rw [if_pos h] at hc
      rw [List.mem_singleton.mp hc]
      omega
    · rw [if_neg h] at hc
      cases hc
theorem pnm_len {P : List Nat} {k : Nat} (hP : Pre P) : 1 ≤ (cs (pnm P k)).length ∧ (cs (pnm P k)).length ≤ 4 := by
  rw [pnm_cs, List.length_append, List.length_append]
  have := hP.len
  split <;> simp <;> omega
theorem pnm_nm {P : List Nat} {k : Nat} (hP : Pre P) (hk : k < 702) : Nm (pnm P k) := by
  have := pnm_len (k := k) hP
  exact nm_of rfl this.1 (by omega) (pnm_abc hP hk)
def poolL (P : List Nat) (n : Nat) : List Str := (List.range n).map (pnm P)
theorem poolL_nd (P : List Nat) (n : Nat) : (poolL P n).Nodup := by
  unfold poolL
  rw [List.Nodup, List.pairwise_map]
  exact (List.nodup_range (n := n)).imp fun {a b} h e => h (pnm_inj e)
theorem poolL_nm {P : List Nat} {n : Nat} (hP : Pre P) (hn : n ≤ 702) {z : Str} (h : z ∈ poolL P n) : Nm z := by
  obtain ⟨k, hk, rfl⟩ := List.mem_map.mp h
  have := List.mem_range.mp hk
  exact pnm_nm hP (by omega)
section
variable {P : Program} {w : World} {K : PySem.W.Frag} {mg : Str → Option Value} {base : Heap}
/-! _law_pool -/
def spPool : Sp := fun vs H Q _ => ∃ (a c : Addr) (n : Nat), vs = [.ref a, .int (n : Int)] ∧ Wl a c H ∧ n ≤ 702 ∧ ∀ H' p (P : List Nat), Exw a H H' → Wl a c H' → H p = none → p ≠ a → p ≠ c → H' p = some (.lst ((poolL P n).map V.str)) → Pre P → Q (.ref p) H'
theorem ok_pool (T : Blt mg) (ddraw : Dndraw K mg) (dany : Dnany K mg) (d : Dnpool K mg) : FnOk P w K mg base CX0 3 d.f d.fd ["_law_hand_here", "_law_many"] spPool := by
  have Gany : FnOk P w K mg base CX0 2 dany.f dany.fd ["_law_hand_here", "_law_some"] spAny := ok_any T ddraw dany
  refine d.F.ok scpool (fun vs H Q E h => ?_) (fun cdv A outer s H vs Q E hr h => ?_)
  · obtain ⟨a, c, n, rfl, _⟩ := h
    rfl
  · obtain ⟨a, c, n, rfl, hw, hn, q⟩ := h
    refine ⟨_, (pss_cons (ps_set (i := 2) scpool.nd rfl (Or.inr rfl) pe_str)
    (pss_cons (ps_set (i := 3) scpool.nd rfl (Or.inr rfl) (pe_call Gany (hr.mono (by omega)) (by rfl) dany.g dany.F.kp dany.b .nil pass0 (pa_cons (pv 0) (pa_cons (pe_lst (pa_cons pe_str (pa_cons pe_str (pa_cons pe_str (pa_cons pe_str pa_nil))))) pa_nil))))
    (pss_one (ps_ret (pe_lc (own := [("_law_k", 4)]) (g := gName 4) (tt := tYes) rfl scpool.nd (pi_range1 (by rfl) T.n_range (pa_cons (pv 1) pa_nil)) (blkOk_by (N := Npool) (sc := defScope spool) (by decide +kernel)) (fun _ _ _ _ _ => pg_name (i := 4) scpool.nd rfl (Or.inl rfl)) (fun _ _ _ _ _ => pts_nil) (fun _ _ _ _ _ => (pe_op op_add_str (pe_op op_add_str (pv 3) (pe_ix ix_str (pv 2) (pe_op op_mod (pe_callTy call_int1 (by rfl) T.n_int (show bootBuiltins (Str.ofString "int") = some (Value.type "int") by decide +kernel) (pa_cons (pv 4) pa_nil)) pe_int) (fun _ _ => rfl))) (pe_op op_times (pe_ix ix_str (pv 2) (pe_op op_sub (pe_op op_fdiv (pv 4) pe_int) pe_int) (fun _ _ => rfl)) (pe_callTy call_int1 (by rfl) T.n_int (show bootBuiltins (Str.ofString "int") = some (Value.type "int") by decide +kernel) (pa_cons (pe_cmpR op_gt (pv 4) pe_int (nomark _)) pa_nil)))))))))), ?_⟩
    refine ⟨.ref a, rfl, (by show 4 ≤ sizeLine; decide), fun l nl => ?_⟩
    have lw := hw.ne2 nl
    have hl : (upd H l (.lst [.str (Str.ofString ""), .str (Str.ofString ""), .str (Str.ofString "q"), .str (Str.ofString "zy")])) l = some (.lst [.str (Str.ofString ""), .str (Str.ofString ""), .str (Str.ofString "q"), .str (Str.ofString "zy")]) := upd_same
    refine ⟨a, c, l, _, rfl, hw.same (same_upd nl), lw.1, hl, (by show 0 < 4; decide), (by show 4 ≤ 100000; decide), fun H1 x x1 w1 hx => ?_⟩
    obtain ⟨z, P, rfl, hz, hP⟩ : ∃ (z : Str) (P : List Nat), x = .str z ∧ cs z = P ∧ Pre P := by
      have e0 : cs (Str.ofString "") = [] := by decide +kernel
      have e1 : cs (Str.ofString "q") = [113] := by decide +kernel
      have e2 : cs (Str.ofString "zy") = [122, 121] := by decide +kernel
      have p0 : Pre [] := ⟨by decide, (fun _ h => nomatch h), .inl rfl⟩
      have p1 : Pre [113] := ⟨by decide, (fun c hc => by rw [List.mem_singleton.mp hc]; decide), .inr (.inl rfl)⟩
      have p2 : Pre [122, 121] := ⟨by decide, (fun c hc => by
        rcases List.mem_cons.mp hc with rfl | hc
        · decide
        · rw [List.mem_singleton.mp hc]; decide), .inr (.inr rfl)⟩
      rcases List.mem_cons.mp hx with rfl | hx
      · exact ⟨_, _, rfl, e0, p0⟩
      · rcases List.mem_cons.mp hx with rfl | hx
        · exact ⟨_, _, rfl, e0, p0⟩
        · rcases List.mem_cons.mp hx with rfl | hx
          · exact ⟨_, _, rfl, e1, p1⟩
          · rw [List.mem_singleton.mp hx]
            exact ⟨_, _, rfl, e2, p2⟩
    have x01 : Exw a H H1 := fun b o n e => x1 b o n (same_upd nl _ _ e)
    refine ⟨.int (n : Int), rfl, (n : Int), rfl, by omega, by omega, fun D nD => ?_⟩
    rw [Int.toNat_natCast]
    have Dw := w1.ne2 nD
    have nD0 : H D = none := x01.gone Dw.1 nD
    have hzl : (Str.ofString "abcdefghijklmnopqrstuvwxyz").length ≤ sizeLine := by
      rw [show (Str.ofString "abcdefghijklmnopqrstuvwxyz").length = 26 by decide +kernel, sizeLine_eq]
      decide
    have hz2 : z.length ≤ 2 := by
      rw [← cs_len, hz]
      exact hP.len
    refine lc_range (lo := 0) (n := n) (fun i H3 => Same H1 H3 ∧ H3 D = some (.lst ((poolL P i).map V.str))) ⟨same_upd nD, upd_same⟩ (fun i H3 hi h3 => ?_) (fun H3 h3 => ?_)
    · obtain ⟨s3, hD⟩ := h3
      have e0 : ((0 : Int) + (i : Int)) % 26 = ((i % 26 : Nat) : Int) := by omega
      have a1 : atI (Str.ofString "abcdefghijklmnopqrstuvwxyz").cps.toList (((0 : Int) + (i : Int)) % 26) = some (97 + i % 26) := by
        rw [e0]
        exact atI_nat (abc_at ⟨i % 26, Nat.mod_lt _ (by decide)⟩)
      refine ⟨rfl, .str z, rfl, _, rfl, .int (0 + (i : Int)), rfl, .inl ⟨_, rfl, _, _, rfl, rfl, (by show (0 : Int) < 26; decide), _, _, _, rfl, rfl, hzl, a1, _, _, rfl, rfl, (by rw [sizeLine_eq]; show z.length + 1 ≤ _; omega), ?_⟩⟩
      refine ⟨_, rfl, .int (0 + (i : Int)), rfl, _, _, rfl, rfl, ⟨by decide, by decide⟩, _, _, rfl, rfl, ?_⟩
      dsimp only
      by_cases h25 : 25 < i
      · have e1 : ((0 : Int) + (i : Int)) / 26 - 1 = ((i / 26 - 1 : Nat) : Int) := by omega
        have a2 : atI (Str.ofString "abcdefghijklmnopqrstuvwxyz").cps.toList (((0 : Int) + (i : Int)) / 26 - 1) = some (97 + (i / 26 - 1)) := by
          rw [e1]
          exact atI_nat (abc_at ⟨i / 26 - 1, by omega⟩)
        refine ⟨_, _, _, rfl, rfl, hzl, a2, .int (0 + (i : Int)), rfl, _, _, rfl, rfl, .inr ⟨_, rfl, _, _, rfl, rfl, (by show 1 ≤ 16; decide), ?_, ?_, ?_⟩⟩
        · split <;> decide
        · split <;> decide
        rw [show (decide ((25 : Int) < 0 + (i : Int))) = true from decide_eq_true (by omega), if_pos rfl, mul_one']
        refine ⟨_, _, rfl, rfl, by rw [sizeLine_eq, len_app]; show (z.length + 1) + 1 ≤ _; omega, _, hD, by rw [List.length_map]; unfold poolL; rw [List.length_map, List.length_range, sizeLine_eq]; omega, Same.put s3 nD, ?_⟩
        have hv : (z ++ (⟨#[97 + i % 26]⟩ : Str)) ++ (⟨#[97 + (i / 26 - 1)]⟩ : Str) = pnm P i := by
          refine cs_inj ?_
          rw [cs_app, cs_app, hz, pnm_cs, if_pos h25]
          rfl
        rw [hv, upd_same]
        unfold poolL
        rw [List.range_succ, List.map_append, List.map_append]
        rfl
      · have a2 : atI (Str.ofString "abcdefghijklmnopqrstuvwxyz").cps.toList (((0 : Int) + (i : Int)) / 26 - 1) = some 122 := by
          rw [show ((0 : Int) + (i : Int)) / 26 - 1 = -1 by omega]
          decide +kernel
        refine ⟨_, _, _, rfl, rfl, hzl, a2, .int (0 + (i : Int)), rfl, _, _, rfl, rfl, .inr ⟨_, rfl, _, _, rfl, rfl, (by show 1 ≤ 16; decide), ?_, ?_, ?_⟩⟩
        · split <;> decide
        · split <;> decide
        rw [show (decide ((25 : Int) < 0 + (i : Int))) = false from decide_eq_false (by omega), if_neg (by decide), mul_zero']
        refine ⟨_, _, rfl, rfl, by rw [sizeLine_eq, len_app]; show (z.length + 1) + 0 ≤ _; omega, _, hD, by rw [List.length_map]; unfold poolL; rw [List.length_map, List.length_range, sizeLine_eq]; omega, Same.put s3 nD, ?_⟩
        have hv : (z ++ (⟨#[97 + i % 26]⟩ : Str)) ++ Str.empty = pnm P i := by
          refine cs_inj ?_
          rw [cs_app, cs_app, hz, pnm_cs, if_neg h25]
          rfl
        rw [hv, upd_same]
        unfold poolL
        rw [List.range_succ, List.map_append, List.map_append]
        rfl
    · obtain ⟨s3, hD⟩ := h3
      exact q H3 D P (x01.same s3) (w1.same s3) nD0 Dw.1 Dw.2 hD hP
end
section
variable {P : Program} {w : World} {K : PySem.W.Frag} {mg : Str → Option Value} {base : Heap}
/-! _law_deep -/
def spDeep (K : PySem.W.Frag) : Sp := fun vs H Q _ => ∃ n : Nat, vs = [.int (n : Int)] ∧ n ≤ 100 ∧ ∀ H' v ds, Same H H' → DtAt K H' v (.tup ds) → Q v H'
theorem ok_deep (T : Blt mg) (d : Dndeep K mg) : FnOk P w K mg base CX0 1 d.f d.fd ["_law_many"] (spDeep K) := by
  refine d.F.ok scdeep (fun vs H Q E h => ?_) (fun cdv A outer s H vs Q E hr h => ?_)
  · obtain ⟨n, rfl, _⟩ := h
    rfl
  · obtain ⟨n, rfl, hn, q⟩ := h
    refine ⟨_, (pss_cons (ps_set (i := 1) scdeep.nd rfl (Or.inl rfl) (pe_tupF pa_nil))
    (pss_cons (ps_for PassesOwn.never rfl (pi_range1 (by rfl) T.n_range (pa_cons (pv 0) pa_nil)) (pg_name (i := 2) scdeep.nd rfl (Or.inl rfl))
      (pss_one (ps_set (i := 1) scdeep.nd rfl (Or.inl rfl) (pe_tupF (pa_cons (pv 1) pa_nil)))))
    (pss_one (ps_ret (pv 1))))), ?_⟩
    refine ⟨(by show 0 ≤ sizeLine; decide), fun t o nt ho => ⟨.int (n : Int), rfl, (n : Int), rfl, by omega, by omega, ?_⟩⟩
    rw [Int.toNat_natCast]
    refine for_range (lo := 0) (n := n) (fun i σ H4 => ∃ (v : V) (y : Option V) (ds : List Dat), σ = [some (.int (n : Int)), some v, y] ∧ Same H H4 ∧ DatAt K (2 ^ 90) 5000 (i + 1) H4 v (.tup ds)) ⟨.ref t, none, [], rfl, same_upd nt, .ltup ⟨o, upd_same, ho⟩ (by show 0 ≤ 5000; decide) .nil⟩ ?_ ?_
    · rintro i σ H4 hi ⟨v, y, ds, rfl, s4, hv⟩
      refine ⟨v, rfl, (by show 1 ≤ sizeLine; decide), fun k o2 nk ho2 => ⟨.ref k, _, [.tup ds], rfl, Same.new s4 nk, .ltup ⟨o2, upd_same, ho2⟩ (by show 1 ≤ 5000; decide) (.cons (hv.same (same_upd nk)) .nil)⟩⟩
    · rintro σ H4 ⟨v, y, ds, rfl, s4, hv⟩
      exact ⟨v, rfl, q H4 v ds s4 ⟨_, hv⟩⟩
end
/-! texts made of words -/
def wt (ys : List Str) : Nat := (ys.map (·.length)).sum + ys.length
theorem wt_app (a b : List Str) : wt (a ++ b) = wt a + wt b := by
  unfold wt
  rw [List.map_append, List.sum_append, List.length_append]
  omega
theorem wt_take (ys : List Str) (n : Nat) : wt (ys.take n) + wt (ys.drop n) = wt ys := by
  rw [← wt_app, List.take_append_drop]
theorem wt_join : ∀ {ys : List Str}, ys ≠ [] → wt ys = (Str.join blk ys).length + 1
  | [], h => absurd rfl h
  | [x], _ => by
    show (x.length + 0) + 1 = x.length + 1
    omega
  | x :: y :: r, _ => by
    have ih := wt_join (ys := y :: r) (by intro z; cases z)
    show wt ([x] ++ (y :: r)) = (x ++ blk ++ Str.join blk (y :: r)).length + 1
    rw [wt_app, ih, Str.length_append, Str.length_append, blk_len]
    show (x.length + 0) + 1 + _ = _
    omega
theorem wt_split (z : Str) : wt (Txt.split z blk) = z.length + 1 := by
  have h := wt_join (ys := Txt.split z blk) (fun e => by have := PyProof.Rows.split_pos z blk; rw [e] at this; cases this)
  rw [h, StrLaws.join_split]
theorem join_wt (ys : List Str) : (Txt.join blk ys).length ≤ wt ys := by
  have := join_len ys
  rw [blk_len] at this
  unfold wt
  omega
theorem cut_first {xs : List V} {b : Nat} : cutV xs none (some (b : Int)) = xs.take b := by
  unfold cutV
  rw [HT.sIx_nat, HT.sIx_none, List.drop_zero, Nat.sub_zero]
  by_cases h : b ≤ xs.length
  · rw [show min b xs.length = b by omega]
  · rw [show min b xs.length = xs.length by omega, List.take_length, List.take_of_length_le (by omega)]
def oneL : List Str := [Str.ofString " ", Str.ofString "a", Str.ofString "0", Str.ofString "A", Str.ofString "\n", Str.ofString "z", Str.ofString "1", Str.ofString "-", Str.ofString "  "]
def someL : List Str := [Str.ofString "count", Str.ofString "lot", Str.ofString "apart", Str.ofString "place", Str.ofString "first", Str.ofString "unlike", Str.ofString "squares", Str.ofString "a", Str.ofString "zz", Str.ofString "abcdefghi", Str.ofString "0", Str.ofString "1", Str.ofString "41"]
def twoL : List Str := [Str.ofString "040", Str.ofString "40"]
theorem oneL_len : ∀ y ∈ oneL, y.length ≤ 9 := by decide +kernel
theorem someL_len : ∀ y ∈ someL ++ twoL, y.length ≤ 9 := by decide +kernel
section
variable {P : Program} {w : World} {K : PySem.W.Frag} {mg : Str → Option Value} {base : Heap}
/-! _law_bent_text -/
def spBentText : Sp := fun vs H Q _ => ∃ (a c : Addr) (z : Str), vs = [.ref a, .str z] ∧ Wl a c H ∧ z.length ≤ 1900 ∧ ∀ H' z', Exw a H H' → Wl a c H' → z'.length ≤ 2 * z.length + 16 → Q (.str z') H'
theorem ok_bent_text (T : Blt mg) (ddraw : Dndraw K mg) (dany : Dnany K mg) (d : Dnbent_text K mg) : FnOk P w K mg base CX0 3 d.f d.fd ["_law_hand_here", "_law_text"] spBentText := by
  have Gdraw : FnOk P w K mg base CX0 1 ddraw.f ddraw.fd ["_law_hand_here", "_law_many"] spDraw := ok_draw T ddraw
  have Gany : FnOk P w K mg base CX0 2 dany.f dany.fd ["_law_hand_here", "_law_some"] spAny := ok_any T ddraw dany
  refine d.F.ok scbent_text (fun vs H Q E h => ?_) (fun cdv A outer s H vs Q E hr h => ?_)
  · obtain ⟨a, c, z, rfl, _⟩ := h
    rfl
  · obtain ⟨a, c, z, rfl, hw, hz, q⟩ := h
    refine ⟨_, (pss_cons (ps_par (i := 2) (j := 3) (by rfl) scbent_text.nd rfl rfl (by decide) rfl rfl (pa_cons (pe_call Gdraw (hr.mono (by omega)) (by rfl) ddraw.g ddraw.F.kp ddraw.b .nil pass0 (pa_cons (pv 0) (pa_cons (pe_op op_add (pe_callB call_len_str (by rfl) T.n_len (by decide +kernel) (pa_cons (pv 1) pa_nil)) pe_int) pa_nil))) (pa_cons (pe_call Gdraw (hr.mono (by omega)) (by rfl) ddraw.g ddraw.F.kp ddraw.b .nil pass0 (pa_cons (pv 0) (pa_cons pe_int pa_nil))) pa_nil)) (by rfl))
    (pss_cons (ps_if (pt_cmpR op_eq (pv 3) pe_int (nomark _))
      (pss_one (ps_ret (pe_op op_add_str (pe_op op_add_str (pe_slice sl_str (pv 1) po_none (po_some (pv 2))) (pe_call Gany (hr.mono (by omega)) (by rfl) dany.g dany.F.kp dany.b .nil pass0 (pa_cons (pv 0) (pa_cons (pe_lst (pa_cons pe_str (pa_cons pe_str (pa_cons pe_str (pa_cons pe_str (pa_cons pe_str (pa_cons pe_str (pa_cons pe_str (pa_cons pe_str (pa_cons pe_str pa_nil)))))))))) pa_nil)))) (pe_slice sl_str (pv 1) (po_some (pv 2)) po_none))))
      pss_nil)
    (pss_cons (ps_if (pt_cmpR op_eq (pv 3) pe_int (nomark _))
      (pss_one (ps_ret (pe_op op_add_str (pe_slice sl_str (pv 1) po_none (po_some (pv 2))) (pe_slice sl_str (pv 1) (po_some (pe_op op_add (pv 2) pe_int)) po_none))))
      pss_nil)
    (pss_cons (ps_set (i := 4) scbent_text.nd rfl (Or.inl rfl) (pe_split (pv 1) pe_str))
    (pss_cons (ps_set (i := 5) scbent_text.nd rfl (Or.inl rfl) (pe_call Gdraw (hr.mono (by omega)) (by rfl) ddraw.g ddraw.F.kp ddraw.b .nil pass0 (pa_cons (pv 0) (pa_cons (pe_callB call_len_seq (by rfl) T.n_len (by decide +kernel) (pa_cons (pv 4) pa_nil)) pa_nil))))
    (pss_cons (ps_set (i := 6) scbent_text.nd rfl (Or.inl rfl) (pe_lst (pa_cons pe_str (pa_cons pe_str (pa_cons pe_str (pa_cons pe_str (pa_cons pe_str (pa_cons pe_str (pa_cons pe_str (pa_cons pe_str (pa_cons pe_str (pa_cons pe_str (pa_cons pe_str (pa_cons pe_str (pa_cons pe_str pa_nil)))))))))))))))
    (pss_cons (ps_set (i := 6) scbent_text.nd rfl (Or.inl rfl) (pe_op op_cat (pv 6) (pe_lst (pa_cons pe_str (pa_cons pe_str pa_nil)))))
    (pss_cons (ps_if (pt_cmpR op_eq (pv 3) pe_int (nomark _))
      (pss_one (ps_ret (pe_join pe_str (pe_op op_cat (pe_op op_cat (pe_slice sl_list (pv 4) po_none (po_some (pv 5))) (pe_lst (pa_cons (pe_call Gany (hr.mono (by omega)) (by rfl) dany.g dany.F.kp dany.b .nil pass0 (pa_cons (pv 0) (pa_cons (pv 6) pa_nil))) pa_nil))) (pe_slice sl_list (pv 4) (po_some (pe_op op_add (pv 5) pe_int)) po_none)))))
      pss_nil)
    (pss_cons (ps_if (pt_cmpR op_eq (pv 3) pe_int (nomark _))
      (pss_one (ps_ret (pe_join pe_str (pe_op op_cat (pe_slice sl_list (pv 4) po_none (po_some (pv 5))) (pe_slice sl_list (pv 4) (po_some (pe_op op_add (pv 5) pe_int)) po_none)))))
      pss_nil)
    (pss_one (ps_ret (pe_join pe_str (pe_op op_cat (pe_op op_cat (pe_slice sl_list (pv 4) po_none (po_some (pe_op op_add (pv 5) pe_int))) (pe_lst (pa_cons (pe_call Gany (hr.mono (by omega)) (by rfl) dany.g dany.F.kp dany.b .nil pass0 (pa_cons (pv 0) (pa_cons (pe_op op_cat (pv 4) (pv 6)) pa_nil))) pa_nil))) (pe_slice sl_list (pv 4) (po_some (pe_op op_add (pv 5) pe_int)) po_none)))))))))))))), ?_⟩
    have hsz : z.length ≤ sizeLine := by rw [sizeLine_eq]; omega
    refine ⟨.ref a, rfl, .str z, rfl, z, rfl, hsz, _, _, rfl, rfl, a, c, ((z.length : Nat) : Int) + 1, rfl, hw, by omega, by omega, fun H1 k x1 w1 k0 k1 => ?_⟩
    refine ⟨.ref a, rfl, a, c, 5, rfl, w1, (by decide), (by decide), fun H2 wy x2 w2 y0 y1 => ⟨_, _, rfl, ?_⟩⟩
    have x02 := x1.trans x2
    refine ⟨.int wy, rfl, rfl, _, rfl, ite2 (fun _ => ?_) fun _ => ?_⟩
    · refine ⟨.str z, rfl, .int k, rfl, k, rfl, z, rfl, hsz, .ref a, rfl, (by show 9 ≤ sizeLine; decide), fun l nl => ?_⟩
      have s3 : Same H2 (upd H2 l (.lst (oneL.map V.str))) := same_upd nl
      have hl3 : (upd H2 l (.lst (oneL.map V.str))) l = some (.lst (oneL.map V.str)) := upd_same
      refine ⟨a, c, l, oneL.map V.str, rfl, w2.same s3, (w2.ne2 nl).1, hl3, (by show 0 < 9; decide), (by show 9 ≤ 100000; decide), fun H4 x x4 w4 hx => ?_⟩
      obtain ⟨y, hy, rfl⟩ := List.mem_map.mp hx
      have hyl := oneL_len y hy
      have c1 := cutS_length z none (some k)
      have c2 := cutS_length z (some k) none
      refine ⟨_, _, rfl, rfl, by rw [sizeLine_eq]; omega, .str z, rfl, .int k, rfl, k, rfl, z, rfl, hsz, _, _, rfl, rfl, by rw [sizeLine_eq, sapp_len]; omega, ?_⟩
      exact q H4 _ ((x02.same s3).trans x4) w4 (by rw [sapp_len, sapp_len]; omega)
    refine ⟨.int wy, rfl, rfl, _, rfl, ite2 (fun _ => ?_) fun _ => ?_⟩
    · have c1 := cutS_length z none (some k)
      have c2 := cutS_length z (some (k + 1)) none
      refine ⟨.str z, rfl, .int k, rfl, k, rfl, z, rfl, hsz, .str z, rfl, .int k, rfl, _, _, rfl, rfl, k + 1, rfl, z, rfl, hsz, _, _, rfl, rfl, by rw [sizeLine_eq]; omega, ?_⟩
      exact q H2 _ x02 w2 (by rw [sapp_len]; omega)
    refine ⟨.str z, rfl, ⟨_, rfl⟩, z, blk, rfl, rfl, (by decide +kernel), (by rw [sizeLine_eq]; omega), fun p np => ?_⟩
    have hwt := wt_split z
    have hne : 1 ≤ (Txt.split z blk).length := PyProof.Rows.split_pos z blk
    have hmem : ∀ y ∈ Txt.split z blk, y.length ≤ z.length := fun y hy => split_mem hy
    generalize Txt.split z blk = ws at hwt hne hmem ⊢
    have hwl : ws.length ≤ 1901 := by unfold wt at hwt; omega
    have s3 : Same H2 (upd H2 p (.lst (ws.map V.str))) := same_upd np
    have hp3 : (upd H2 p (.lst (ws.map V.str))) p = some (.lst (ws.map V.str)) := upd_same
    have pa := (w2.ne2 np).1
    have w3 := w2.same s3
    have x03 := x02.same s3
    generalize upd H2 p (.lst (ws.map V.str)) = H3 at s3 hp3 w3 x03 ⊢
    refine ⟨.ref a, rfl, .ref p, rfl, p, _, rfl, .inl (sql hp3), a, c, ((ws.map V.str).length : Int), rfl, w3, by rw [List.length_map]; omega, by rw [List.length_map]; omega, fun H4 at_ x4 w4 a0 a1 => ?_⟩
    rw [List.length_map] at a1
    obtain ⟨j, rfl⟩ := Int.eq_ofNat_of_zero_le a0
    have hj : j < ws.length := by omega
    have hp4 := x4 _ _ pa hp3
    have x04 := x03.trans x4
    refine ⟨(by show 13 ≤ sizeLine; decide), fun l nl => ?_⟩
    have s5 : Same H4 (upd H4 l (.lst [.str (Str.ofString "count"), .str (Str.ofString "lot"), .str (Str.ofString "apart"), .str (Str.ofString "place"), .str (Str.ofString "first"), .str (Str.ofString "unlike"), .str (Str.ofString "squares"), .str (Str.ofString "a"), .str (Str.ofString "zz"), .str (Str.ofString "abcdefghi"), .str (Str.ofString "0"), .str (Str.ofString "1"), .str (Str.ofString "41")])) := same_upd nl
    have hl5 : (upd H4 l (.lst [.str (Str.ofString "count"), .str (Str.ofString "lot"), .str (Str.ofString "apart"), .str (Str.ofString "place"), .str (Str.ofString "first"), .str (Str.ofString "unlike"), .str (Str.ofString "squares"), .str (Str.ofString "a"), .str (Str.ofString "zz"), .str (Str.ofString "abcdefghi"), .str (Str.ofString "0"), .str (Str.ofString "1"), .str (Str.ofString "41")])) l = some (.lst (someL.map V.str)) := upd_same
    generalize upd H4 l (.lst [.str (Str.ofString "count"), .str (Str.ofString "lot"), .str (Str.ofString "apart"), .str (Str.ofString "place"), .str (Str.ofString "first"), .str (Str.ofString "unlike"), .str (Str.ofString "squares"), .str (Str.ofString "a"), .str (Str.ofString "zz"), .str (Str.ofString "abcdefghi"), .str (Str.ofString "0"), .str (Str.ofString "1"), .str (Str.ofString "41")]) = H5 at s5 hl5 ⊢
    refine ⟨.ref l, rfl, (by show 2 ≤ sizeLine; decide), fun l2 nl2 => ?_⟩
    have s6 : Same H5 (upd H5 l2 (.lst [.str (Str.ofString "040"), .str (Str.ofString "40")])) := same_upd nl2
    have hl6 : (upd H5 l2 (.lst [.str (Str.ofString "040"), .str (Str.ofString "40")])) l2 = some (.lst (twoL.map V.str)) := upd_same
    generalize upd H5 l2 (.lst [.str (Str.ofString "040"), .str (Str.ofString "40")]) = H6 at s6 hl6 ⊢
    refine ⟨l, l2, _, _, rfl, rfl, s6 _ _ hl5, hl6, (by show 15 ≤ sizeLine; decide), fun l3 nl3 => ?_⟩
    rw [← List.map_append]
    have s7 : Same H6 (upd H6 l3 (.lst ((someL ++ twoL).map V.str))) := same_upd nl3
    have hl7 : (upd H6 l3 (.lst ((someL ++ twoL).map V.str))) l3 = some (.lst ((someL ++ twoL).map V.str)) := upd_same
    have s47 := same_trans s5 (same_trans s6 s7)
    have l3a := ((w4.same (same_trans s5 s6)).ne2 nl3).1
    generalize upd H6 l3 (.lst ((someL ++ twoL).map V.str)) = H7 at s7 hl7 s47 ⊢
    have hp7 := s47 _ _ hp4
    have w7 := w4.same s47
    have x07 := x04.same s47
    have tk : ∀ n, wt (ws.take n) ≤ z.length + 1 := fun n => by have := wt_take ws n; omega
    refine ⟨.int wy, rfl, rfl, _, rfl, ite2 (fun _ => ?_) fun _ => ?_⟩
    · refine ⟨⟨_, rfl⟩, .ref p, rfl, .int (j : Int), rfl, (j : Int), rfl, p, _, rfl, sql hp7, fun q1 n1 => ?_⟩
      rw [cut_first]
      have s8 : Same H7 (upd H7 q1 (.lst ((ws.map V.str).take j))) := same_upd n1
      have h8 : (upd H7 q1 (.lst ((ws.map V.str).take j))) q1 = some (.lst ((ws.map V.str).take j)) := upd_same
      have q1a := (w7.ne2 n1).1
      generalize upd H7 q1 (.lst ((ws.map V.str).take j)) = H8 at s8 h8 ⊢
      have w8 := w7.same s8
      refine ⟨.ref a, rfl, .ref l3, rfl, a, c, l3, _, rfl, w8, l3a, s8 _ _ hl7, (by show 0 < 15; decide), (by show 15 ≤ 100000; decide), fun H9 x x9 w9 hx => ?_⟩
      obtain ⟨y, hy, rfl⟩ := List.mem_map.mp hx
      have hyl := someL_len y hy
      have h9 := x9 _ _ q1a h8
      have hp9 := x9 _ _ pa (s8 _ _ hp7)
      refine ⟨(by show 1 ≤ sizeLine; decide), fun q2 n2 => ⟨q1, q2, _, _, rfl, rfl, same_upd n2 _ _ h9, upd_same, ?_, fun q3 n3 => ?_⟩⟩
      · show ((ws.map V.str).take j).length + 1 ≤ sizeLine
        rw [List.length_take, List.length_map, sizeLine_eq]
        omega
      have s10 := Same.new (same_upd (o := .lst [.str y]) n2) n3 (o := .lst ((ws.map V.str).take j ++ [.str y]))
      have h10 : (upd (upd H9 q2 (.lst [.str y])) q3 (.lst ((ws.map V.str).take j ++ [.str y]))) q3 = some (.lst ((ws.map V.str).take j ++ [.str y])) := upd_same
      generalize upd (upd H9 q2 (.lst [.str y])) q3 (.lst ((ws.map V.str).take j ++ [.str y])) = H10 at s10 h10 ⊢
      refine ⟨.ref p, rfl, .int (j : Int), rfl, _, _, rfl, rfl, (j : Int) + 1, rfl, p, _, rfl, sql (s10 _ _ hp9), fun q4 n4 => ⟨q3, q4, _, _, rfl, rfl, same_upd n4 _ _ h10, upd_same, ?_, fun q5 n5 => ?_⟩⟩
      · rw [show (j : Int) + 1 = ((j + 1 : Nat) : Int) from rfl, cut_rest, List.length_append, List.length_take, List.length_drop, List.length_map, sizeLine_eq]
        show _ + 1 + _ ≤ _
        omega
      have s11 := Same.new (same_upd (o := .lst (cutV (ws.map V.str) (some ((j : Int) + 1)) none)) n4) n5 (o := .lst (((ws.map V.str).take j ++ [.str y]) ++ cutV (ws.map V.str) (some ((j : Int) + 1)) none))
      have ez : ((ws.map V.str).take j ++ [.str y]) ++ cutV (ws.map V.str) (some ((j : Int) + 1)) none = (ws.take j ++ [y] ++ ws.drop (j + 1)).map V.str := by
        rw [show (j : Int) + 1 = ((j + 1 : Nat) : Int) from rfl, cut_rest, List.map_append, List.map_append, List.map_take, List.map_drop]
        rfl
      have e1 := wt_take ws (j + 1)
      have e2 : wt (ws.take j ++ [y] ++ ws.drop (j + 1)) = wt (ws.take j) + (y.length + 1) + wt (ws.drop (j + 1)) := by
        rw [wt_app, wt_app]
        rfl
      have e3 : wt (ws.take j) ≤ wt (ws.take (j + 1)) := by
        rw [List.take_add_one, wt_app]
        omega
      refine ⟨blk, q5, ws.take j ++ [y] ++ ws.drop (j + 1), rfl, rfl, .inl (sql (upd_same.trans (by rw [ez]))), ?_, ?_⟩
      · rw [blk_len]
        unfold wt at e2 e1 e3 hwt
        omega
      · exact q _ _ ((((x07.same s8).trans x9).same s10).same s11) ((w9.same s10).same s11) (Nat.le_trans (join_wt _) (by omega))
    refine ⟨.int wy, rfl, rfl, _, rfl, ite2 (fun _ => ?_) fun _ => ?_⟩
    · refine ⟨⟨_, rfl⟩, .ref p, rfl, .int (j : Int), rfl, (j : Int), rfl, p, _, rfl, sql hp7, fun q1 n1 => ?_⟩
      rw [cut_first]
      have s8 : Same H7 (upd H7 q1 (.lst ((ws.map V.str).take j))) := same_upd n1
      have h8 : (upd H7 q1 (.lst ((ws.map V.str).take j))) q1 = some (.lst ((ws.map V.str).take j)) := upd_same
      generalize upd H7 q1 (.lst ((ws.map V.str).take j)) = H8 at s8 h8 ⊢
      refine ⟨.ref p, rfl, .int (j : Int), rfl, _, _, rfl, rfl, (j : Int) + 1, rfl, p, _, rfl, sql (s8 _ _ hp7), fun q4 n4 => ⟨q1, q4, _, _, rfl, rfl, same_upd n4 _ _ h8, upd_same, ?_, fun q5 n5 => ?_⟩⟩
      · rw [show (j : Int) + 1 = ((j + 1 : Nat) : Int) from rfl, cut_rest, List.length_take, List.length_drop, List.length_map, sizeLine_eq]
        omega
      have s11 := Same.new (same_upd (o := .lst (cutV (ws.map V.str) (some ((j : Int) + 1)) none)) n4) n5 (o := .lst ((ws.map V.str).take j ++ cutV (ws.map V.str) (some ((j : Int) + 1)) none))
      have ez : (ws.map V.str).take j ++ cutV (ws.map V.str) (some ((j : Int) + 1)) none = (ws.take j ++ ws.drop (j + 1)).map V.str := by
        rw [show (j : Int) + 1 = ((j + 1 : Nat) : Int) from rfl, cut_rest, List.map_append, List.map_take, List.map_drop]
      have e1 := wt_take ws (j + 1)
      have e2 : wt (ws.take j ++ ws.drop (j + 1)) = wt (ws.take j) + wt (ws.drop (j + 1)) := wt_app _ _
      have e3 : wt (ws.take j) ≤ wt (ws.take (j + 1)) := by
        rw [List.take_add_one, wt_app]
        omega
      refine ⟨blk, q5, ws.take j ++ ws.drop (j + 1), rfl, rfl, .inl (sql (upd_same.trans (by rw [ez]))), ?_, ?_⟩
      · rw [blk_len]
        unfold wt at e2 e1 e3 hwt
        omega
      · exact q _ _ ((x07.same s8).same s11) ((w7.same s8).same s11) (Nat.le_trans (join_wt _) (by omega))
    · refine ⟨⟨_, rfl⟩, .ref p, rfl, .int (j : Int), rfl, _, _, rfl, rfl, (j : Int) + 1, rfl, p, _, rfl, sql hp7, fun q1 n1 => ?_⟩
      rw [show (j : Int) + 1 = ((j + 1 : Nat) : Int) from rfl, cut_first]
      have s8 : Same H7 (upd H7 q1 (.lst ((ws.map V.str).take (j + 1)))) := same_upd n1
      have h8 : (upd H7 q1 (.lst ((ws.map V.str).take (j + 1)))) q1 = some (.lst ((ws.map V.str).take (j + 1))) := upd_same
      have q1a := (w7.ne2 n1).1
      generalize upd H7 q1 (.lst ((ws.map V.str).take (j + 1))) = H8 at s8 h8 ⊢
      have w8 := w7.same s8
      refine ⟨.ref a, rfl, .ref p, rfl, .ref l3, rfl, p, l3, _, _, rfl, rfl, s8 _ _ hp7, s8 _ _ hl7, ?_, fun l4 n4' => ?_⟩
      · rw [List.length_map, List.length_map, sizeLine_eq]
        show ws.length + 15 ≤ _
        omega
      rw [← List.map_append]
      have s8b : Same H8 (upd H8 l4 (.lst ((ws ++ (someL ++ twoL)).map V.str))) := same_upd n4'
      have h8b : (upd H8 l4 (.lst ((ws ++ (someL ++ twoL)).map V.str))) l4 = some (.lst ((ws ++ (someL ++ twoL)).map V.str)) := upd_same
      have l4a := (w8.ne2 n4').1
      generalize upd H8 l4 (.lst ((ws ++ (someL ++ twoL)).map V.str)) = H8b at s8b h8b ⊢
      have hlen4 : ((ws ++ (someL ++ twoL)).map V.str).length = ws.length + 15 := by rw [List.length_map, List.length_append]; rfl
      refine ⟨a, c, l4, _, rfl, w8.same s8b, l4a, h8b, by omega, by omega, fun H9 x x9 w9 hx => ?_⟩
      obtain ⟨y, hy, rfl⟩ := List.mem_map.mp hx
      have hyl : y.length ≤ z.length + 9 := by
        rcases List.mem_append.mp hy with h | h
        · have := hmem y h; omega
        · have := someL_len y h; omega
      have h9 := x9 _ _ q1a (s8b _ _ h8)
      have hp9 := x9 _ _ pa (s8b _ _ (s8 _ _ hp7))
      refine ⟨(by show 1 ≤ sizeLine; decide), fun q2 n2 => ⟨q1, q2, _, _, rfl, rfl, same_upd n2 _ _ h9, upd_same, ?_, fun q3 n3 => ?_⟩⟩
      · show ((ws.map V.str).take (j + 1)).length + 1 ≤ sizeLine
        rw [List.length_take, List.length_map, sizeLine_eq]
        omega
      have s10 := Same.new (same_upd (o := .lst [.str y]) n2) n3 (o := .lst ((ws.map V.str).take (j + 1) ++ [.str y]))
      have h10 : (upd (upd H9 q2 (.lst [.str y])) q3 (.lst ((ws.map V.str).take (j + 1) ++ [.str y]))) q3 = some (.lst ((ws.map V.str).take (j + 1) ++ [.str y])) := upd_same
      generalize upd (upd H9 q2 (.lst [.str y])) q3 (.lst ((ws.map V.str).take (j + 1) ++ [.str y])) = H10 at s10 h10 ⊢
      refine ⟨.ref p, rfl, .int (j : Int), rfl, _, _, rfl, rfl, (j : Int) + 1, rfl, p, _, rfl, sql (s10 _ _ hp9), fun q4 n4 => ⟨q3, q4, _, _, rfl, rfl, same_upd n4 _ _ h10, upd_same, ?_, fun q5 n5 => ?_⟩⟩
      · rw [show (j : Int) + 1 = ((j + 1 : Nat) : Int) from rfl, cut_rest, List.length_append, List.length_take, List.length_drop, List.length_map, sizeLine_eq]
        show _ + 1 + _ ≤ _
        omega
      have s11 := Same.new (same_upd (o := .lst (cutV (ws.map V.str) (some ((j : Int) + 1)) none)) n4) n5 (o := .lst (((ws.map V.str).take (j + 1) ++ [.str y]) ++ cutV (ws.map V.str) (some ((j : Int) + 1)) none))
      have ez : ((ws.map V.str).take (j + 1) ++ [.str y]) ++ cutV (ws.map V.str) (some ((j : Int) + 1)) none = (ws.take (j + 1) ++ [y] ++ ws.drop (j + 1)).map V.str := by
        rw [show (j : Int) + 1 = ((j + 1 : Nat) : Int) from rfl, cut_rest, List.map_append, List.map_append, List.map_take, List.map_drop]
        rfl
      have e1 := wt_take ws (j + 1)
      have e2 : wt (ws.take (j + 1) ++ [y] ++ ws.drop (j + 1)) = wt (ws.take (j + 1)) + (y.length + 1) + wt (ws.drop (j + 1)) := by
        rw [wt_app, wt_app]
        rfl
      refine ⟨blk, q5, ws.take (j + 1) ++ [y] ++ ws.drop (j + 1), rfl, rfl, .inl (sql (upd_same.trans (by rw [ez]))), ?_, ?_⟩
      · rw [blk_len]
        unfold wt at e2 e1 hwt
        omega
      · exact q _ _ (((((x07.same s8).same s8b).trans x9).same s10).same s11) ((w9.same s10).same s11) (Nat.le_trans (join_wt _) (by omega))
end
end Kb

namespace Kb
open PySem PySem.Spec PyProof.Rows L2 SrtZ SrtO RZ StX
abbrev squestion : Stmt := topS 25
abbrev Nquestion : List Str := ["_law_hand_here", "_law_pool_here", "_law_way", "_law_many", "_law_one", "_law_other", "_law_turn"]
theorem scquestion : FnScope ["_law_hand_here", "_law_pool_here", "_law_way", "_law_many", "_law_one", "_law_other", "_law_turn"] ["_law_hand_here", "_law_pool_here"] (defScope squestion) := ⟨rfl, rfl, rfl, by decide +kernel, rfl, by decide +kernel, by decide +kernel⟩
abbrev Dnquestion (K : PySem.W.Frag) (mg : Str → Option Value) := Dn K mg "_law_question" squestion ["_law_hand_here", "_law_pool_here"]
abbrev sbent_question : Stmt := topS 32
abbrev Nbent_question : List Str := ["_law_hand_here", "_law_question_here", "_law_odd", "_law_part", "_law_at", "_law_some"]
theorem scbent_question : FnScope ["_law_hand_here", "_law_question_here", "_law_odd", "_law_part", "_law_at", "_law_some"] ["_law_hand_here", "_law_question_here"] (defScope sbent_question) := ⟨rfl, rfl, rfl, by decide +kernel, rfl, by decide +kernel, by decide +kernel⟩
abbrev Dnbent_question (K : PySem.W.Frag) (mg : Str → Option Value) := Dn K mg "_law_bent_question" sbent_question ["_law_hand_here", "_law_question_here"]
abbrev stold : Stmt := topS 33
abbrev Ntold : List Str := ["_law_thing", "_law_found", "e"]
theorem sctold : FnScope ["_law_thing", "_law_found", "e"] ["_law_thing"] (defScope stold) := ⟨rfl, rfl, rfl, by decide +kernel, rfl, by decide +kernel, by decide +kernel⟩
abbrev Dntold (K : PySem.W.Frag) (mg : Str → Option Value) := Dn K mg "_law_told" stold ["_law_thing"]
/-- isinstance(e, c) of a caught error -/
theorem call_isErr {X : Cx} {a D : Addr} {oe : Obj} {cls : Value} {d : Option Addr} {pn : List (Addr × Obj)} (isC : ExcC X.K D) (hz : Zc cls d oe) (hf : ∃ vs, oe.data = .fields vs) :
    CallR (X.suite a ((a, oe) :: pn)) (.builtin "isinstance") (fun xs H Q => cls = .ref D ∧ d = none ∧ rIsE X.K D a xs H Q) := by
  intro pins s σ H xs us Q I r h
  obtain ⟨ec, ed, h⟩ := h
  subst ec ed
  exact call_isE isC hz hf pins s σ H xs us Q I r h

theorem cut7 {z : Str} (h : z.length ≤ 7) : cutS z none (some 7) = z := by
  unfold cutS
  rw [show HT.sIx z.length z.length (some 7) = min 7 z.length from HT.sIx_nat z.length z.length 7, HT.sIx_none, List.drop_zero, Nat.sub_zero, List.take_of_length_le (by rw [Array.length_toList]; show z.length ≤ _; omega)]
theorem nm_z {z : Str} (h : Nm z) (hl : z.length ≤ 7) : Nm (Str.ofString "z" ++ z) := by
  have e1 : (Str.ofString "z").length = 1 := by decide +kernel
  refine ⟨by rw [sapp_len]; omega, by rw [sapp_len]; omega, fun c hc => ?_⟩
  have e : cs (Str.ofString "z" ++ z) = 122 :: cs z := by
    rw [cs_app]
    rfl
  rw [e] at hc
  rcases List.mem_cons.mp hc with rfl | hc
  · decide
  · exact h.abc c hc
theorem ne_z {z : Str} : z ≠ Str.ofString "z" ++ z := fun e => by
  have := congrArg Str.length e
  rw [sapp_len, show (Str.ofString "z").length = 1 by decide +kernel] at this
  omega
theorem srt_chain {ys : List Str} (so : Srtd ltZ ys) (nd : ys.Nodup) : chainR ys = true := (chainR_pw ys).mpr ((names_asc so nd (fun _ => Iff.rfl)).mp rfl)
theorem lotB_of {ys : List Str} (h : ys.length ≤ 40) (hn : ∀ z ∈ ys, Nm z) (hc : chainR ys = true) : lotB (.tup (ys.map .str)) = true := by
  show (decide ((ys.map Dat.str).length ≤ 40) && ((ys.map Dat.str).all nameD && chainR ((ys.map Dat.str).map strD))) = true
  rw [List.length_map, strs_all, strs_strD, hc, decide_eq_true h, List.all_eq_true.mpr fun z hz => nmB_nm.mpr (hn z hz)]
  rfl
theorem pair_mem {α β : Type} {F : α → β → Prop} : ∀ {xs : List α} {ys : List β} {x : α}, Paired F xs ys → x ∈ xs → ∃ y, F x y
  | _, _, _, .cons h t, m => by
    rcases List.mem_cons.mp m with rfl | m
    · exact ⟨_, h⟩
    · exact pair_mem t m
theorem pair_cut {F : V → Dat → Prop} {xs : List V} {ds : List Dat} (h : Paired F xs ds) (lo hi : Option Int) : ∃ es, Paired F (cutV xs lo hi) es := ⟨_, paired_take _ (paired_drop _ h)⟩
theorem cut_le (xs : List V) (lo hi : Option Int) : (cutV xs lo hi).length ≤ xs.length := by
  unfold cutV
  rw [List.length_take, List.length_drop]
  omega
section
variable {P : Program} {w : World} {K : PySem.W.Frag} {mg : Str → Option Value} {base : Heap}
theorem fn_or {CX : CXT} {k : Nat} {f : Addr} {fd : FuncData} {ps : List Str} {s1 s2 : Sp} (F1 : FnOk P w K mg base CX k f fd ps s1) (F2 : FnOk P w K mg base CX k f fd ps s2) : FnOk P w K mg base CX k f fd ps (fun vs H Q E => s1 vs H Q E ∨ s2 vs H Q E) :=
  ⟨fun vs H Q E h => h.elim (F1.len vs H Q E) (F2.len vs H Q E), fun A outer s H args us vs Q E hr e0 hb r h => h.elim (F1.run A outer s H args us vs Q E hr e0 hb r) (F2.run A outer s H args us vs Q E hr e0 hb r)⟩
/-- what raises nothing, among what may raise -/
theorem fn_lift {CX : CXT} {k : Nat} {f : Addr} {fd : FuncData} {ps : List Str} {s1 : Sp} (F1 : FnOk P w K mg base CX0 k f fd ps s1) : FnOk P w K mg base CX k f fd ps s1 :=
  ⟨F1.len, fun A outer s H args us vs Q E hr e0 hb r h => codeAny_mono (F1.run A outer s H args us vs Q E hr e0 hb r h) fun r s' hq => by
    cases r with
    | error e => exact hq.elim
    | ok fl => cases fl <;> exact hq⟩
/-! _law_question -/
def spQuestionL (K : PySem.W.Frag) : Sp := fun vs H Q _ => ∃ (a c l : Addr) (ns : List Str), vs = [.ref a, .ref l] ∧ Wl a c H ∧ l ≠ a ∧ H l = some (.lst (ns.map V.str)) ∧ 0 < ns.length ∧ ns.length ≤ 702 ∧ (∀ z ∈ ns, Nm z ∧ z.length ≤ 4) ∧
  ∀ H' v d, Exw a H H' → Wl a c H' → DatAt K (2 ^ 90) 5000 2 H' v d → qnD d = true → Q v H'
theorem ok_question (T : Blt mg) (ddraw : Dndraw K mg) (dany : Dnany K mg) (d : Dnquestion K mg) : FnOk P w K mg base CX0 3 d.f d.fd ["_law_hand_here", "_law_pool_here"] (spQuestionL K) := by
  have Gdraw : FnOk P w K mg base CX0 1 ddraw.f ddraw.fd ["_law_hand_here", "_law_many"] spDraw := ok_draw T ddraw
  have Gany : FnOk P w K mg base CX0 2 dany.f dany.fd ["_law_hand_here", "_law_some"] spAny := ok_any T ddraw dany
  refine d.F.ok scquestion (fun vs H Q E h => ?_) (fun cdv A outer s H vs Q E hr h => ?_)
  · obtain ⟨a, c, l, ns, rfl, _⟩ := h
    rfl
  · obtain ⟨a, c, l, ns, rfl, hw, la, hl, n0, n702, hnm, q⟩ := h
    refine ⟨_, (pss_cons (ps_set (i := 2) scquestion.nd rfl (Or.inl rfl) (pe_call Gdraw (hr.mono (by omega)) (by rfl) ddraw.g ddraw.F.kp ddraw.b .nil pass0 (pa_cons (pv 0) (pa_cons pe_int pa_nil))))
    (pss_cons (ps_if (pt_cmpR op_eq (pv 2) pe_int (nomark _))
      (pss_one (ps_ret (pe_tupF (pa_cons pe_str (pa_cons (pe_call Gany (hr.mono (by omega)) (by rfl) dany.g dany.F.kp dany.b .nil pass0 (pa_cons (pv 0) (pa_cons (pv 1) pa_nil))) pa_nil)))))
      pss_nil)
    (pss_cons (ps_if (pt_cmpR op_eq (pv 2) pe_int (nomark _))
      (pss_cons (ps_set (i := 3) scquestion.nd rfl (Or.inl rfl) (pe_call Gany (hr.mono (by omega)) (by rfl) dany.g dany.F.kp dany.b .nil pass0 (pa_cons (pv 0) (pa_cons (pe_lst (pa_cons pe_int (pa_cons pe_int (pa_cons pe_int (pa_cons pe_int (pa_cons pe_int pa_nil)))))) pa_nil))))
      (pss_one (ps_ret (pe_tupF (pa_cons pe_str (pa_cons (pe_callTy call_tupleF (by rfl) T.n_tuple (by decide +kernel) (pa_cons (pe_callB (cr_sortedSS rfl) (by rfl) T.n_sorted (by decide +kernel) (pa_cons (pe_callTy (cr_setOfS rfl) (by rfl) T.n_set (by decide +kernel) (pa_cons (pe_lc (own := [("_law_turn", 6)]) (g := gName 6) (tt := tYes) rfl scquestion.nd (pi_range1 (by rfl) T.n_range (pa_cons (pv 3) pa_nil)) (blkOk_by (N := Nquestion) (sc := defScope squestion) (by decide +kernel)) (fun _ _ _ _ _ => pg_name (i := 6) scquestion.nd rfl (Or.inl rfl)) (fun _ _ _ _ _ => pts_nil) (fun _ _ _ _ _ => (pe_call Gany (hr.mono (by omega)) (by rfl) dany.g dany.F.kp dany.b .nil pass0 (pa_cons (pv 0) (pa_cons (pv 1) pa_nil))))) pa_nil)) pa_nil)) pa_nil)) pa_nil))))))
      pss_nil)
    (pss_cons (ps_if (pt_cmpR op_eq (pv 2) pe_int (nomark _))
      (pss_cons (ps_par (i := 4) (j := 5) (by rfl) scquestion.nd rfl rfl (by decide) rfl rfl (pa_cons (pe_call Gany (hr.mono (by omega)) (by rfl) dany.g dany.F.kp dany.b .nil pass0 (pa_cons (pv 0) (pa_cons (pv 1) pa_nil))) (pa_cons (pe_call Gany (hr.mono (by omega)) (by rfl) dany.g dany.F.kp dany.b .nil pass0 (pa_cons (pv 0) (pa_cons (pv 1) pa_nil))) pa_nil)) (by rfl))
      (pss_one (ps_ret (pe_ifExp (pt_cmpR op_ne (pv 4) (pv 5) (nomark _)) (pe_tupF (pa_cons pe_str (pa_cons (pv 4) (pa_cons (pv 5) pa_nil)))) (pe_tupF (pa_cons pe_str (pa_cons (pv 4) (pa_cons (pe_op op_add_str pe_str (pe_slice sl_str (pv 4) po_none (po_some pe_int))) pa_nil))))))))
      pss_nil)
    (pss_cons (ps_if (pt_cmpR op_eq (pv 2) pe_int (nomark _))
      (pss_one (ps_ret (pe_tupF (pa_cons pe_str (pa_cons (pe_call Gany (hr.mono (by omega)) (by rfl) dany.g dany.F.kp dany.b .nil pass0 (pa_cons (pv 0) (pa_cons (pv 1) pa_nil))) pa_nil)))))
      pss_nil)
    (pss_cons (ps_if (pt_cmpR op_eq (pv 2) pe_int (nomark _))
      (pss_one (ps_ret (pe_tupF (pa_cons pe_str (pa_cons (pe_call Gany (hr.mono (by omega)) (by rfl) dany.g dany.F.kp dany.b .nil pass0 (pa_cons (pv 0) (pa_cons (pe_lst (pa_cons pe_int (pa_cons pe_int (pa_cons pe_int (pa_cons pe_int (pa_cons (pe_op op_add pe_int (pe_call Gdraw (hr.mono (by omega)) (by rfl) ddraw.g ddraw.F.kp ddraw.b .nil pass0 (pa_cons (pv 0) (pa_cons pe_int pa_nil)))) pa_nil)))))) pa_nil))) pa_nil)))))
      pss_nil)
    (pss_one (ps_ret (pe_ifExp (pt_cmpR op_eq (pv 2) pe_int (nomark _)) (pe_tupF (pa_cons pe_str pa_nil)) (pe_tupF (pa_cons pe_str pa_nil))))))))))), ?_⟩
    have fin : ∀ {H' : Hp} {k : Addr} {o : Obj} {xs : List V} {w : Str} {ps : List Dat}, Exw a H H' → Wl a c H' → H' k = none → o.dict = none → Paired (DatAt K (2 ^ 90) 5000 1 H') xs (.str w :: ps) → xs.length ≤ 5000 → QnV w ps → Q (.ref k) (upd H' k (.frz o (.tup xs))) := fun x w' nk ho p le hv =>
      q _ _ _ (x.same (same_upd nk)) (w'.same (same_upd nk)) (.ltup ⟨_, upd_same, ho⟩ le (paired_imp (fun _ _ h => h.same (same_upd nk)) p)) (qnP_of hv)
    have len1 : 0 < (ns.map V.str).length := by rw [List.length_map]; exact n0
    have len2 : (ns.map V.str).length ≤ 100000 := by rw [List.length_map]; omega
    have nmD : ∀ {z : Str}, Nm z → nameD (.str z) = true := fun h => nmB_nm.mpr h
    have wl : ∀ {z : Str}, wdB z = true → z.length ≤ 5000 := fun h => by
      unfold wdB at h
      rw [Bool.and_eq_true, decide_eq_true_eq] at h
      have := h.1
      omega
    refine ⟨.ref a, rfl, a, c, 7, rfl, hw, (by decide), (by decide), fun H1 wy x1 w1 y0 y1 => ?_⟩
    have hl1 := x1 _ _ la hl
    refine ⟨.int wy, rfl, rfl, _, rfl, ite2 (fun _ => ?_) fun _ => ?_⟩
    · refine ⟨.ref a, rfl, .ref l, rfl, a, c, l, _, rfl, w1, la, hl1, len1, len2, fun H2 x x2 w2 hx => ⟨(by show 2 ≤ sizeLine; decide), fun k o nk ho => ?_⟩⟩
      obtain ⟨z, hz, rfl⟩ := List.mem_map.mp hx
      obtain ⟨n1, n2⟩ := hnm z hz
      exact fin (x1.trans x2) w2 nk ho (.cons (.lstr (wl (by decide +kernel))) (.cons (.lstr (by omega)) .nil)) (by show 2 ≤ 5000; decide) (.one (.inl rfl) (nmD n1))
    refine ⟨.int wy, rfl, rfl, _, rfl, ite2 (fun _ => ?_) fun _ => ?_⟩
    · refine ⟨.ref a, rfl, (by show 5 ≤ sizeLine; decide), fun p np => ?_⟩
      refine ⟨a, c, p, ([0, 1, 2, 5, 40] : List Int).map V.int, rfl, w1.same (same_upd np), (w1.ne2 np).1, upd_same, (by show 0 < 5; decide), (by show 5 ≤ 100000; decide), fun H2 x x2 w2 hx => ?_⟩
      obtain ⟨m, hm, rfl⟩ := List.mem_map.mp hx
      have hm2 : 0 ≤ m ∧ m ≤ 40 := (by decide : ∀ m ∈ ([0, 1, 2, 5, 40] : List Int), 0 ≤ m ∧ m ≤ 40) m hm
      obtain ⟨m, rfl⟩ := Int.eq_ofNat_of_zero_le hm2.1
      have x02 := (x1.same (same_upd np)).trans x2
      have hl2 := x2 _ _ la (same_upd np _ _ hl1)
      refine ⟨.int (m : Int), rfl, (m : Int), rfl, by omega, by omega, fun D4 nD4 => ?_⟩
      rw [Int.toNat_natCast]
      have D4a := w2.ne2 nD4
      refine lc_range (lo := 0) (n := m) (fun i H10 => Exw a H2 H10 ∧ Wl a c H10 ∧ ∃ zs : List Str, H10 D4 = some (.lst (zs.map V.str)) ∧ zs.length = i ∧ ∀ z ∈ zs, Nm z) ⟨Same.exw (same_upd nD4), w2.same (same_upd nD4), [], upd_same, rfl, fun _ h => nomatch h⟩ (fun i H10 hi h => ?_) (fun H10 h => ?_)
      · obtain ⟨x10, w10, zs, hD10, hzl, hzs⟩ := h
        refine ⟨rfl, .ref a, rfl, .ref l, rfl, a, c, l, _, rfl, w10, la, x10 _ _ la hl2, len1, len2, fun H11 v x11 w11 hv => ?_⟩
        obtain ⟨z, hz, rfl⟩ := List.mem_map.mp hv
        refine ⟨_, x11 _ _ D4a.1 hD10, by rw [List.length_map, hzl, sizeLine_eq]; omega, (x10.trans x11).put nD4, w11.put D4a, zs ++ [z], by rw [upd_same, List.map_append]; rfl, by rw [List.length_append, hzl]; rfl, fun u hu => ?_⟩
        rcases List.mem_append.mp hu with hu | hu
        · exact hzs u hu
        · rw [List.mem_singleton.mp hu]
          exact (hnm z hz).1
      obtain ⟨x10, w10, zs, hD10, hzl, hzs⟩ := h
      have hdc := dcz_le zs zs.length
      refine ⟨D4, zs, rfl, sql hD10, by omega, fun st n nst hn => ?_⟩
      refine ⟨st, _, n, rfl, upd_same, by omega, fun ys l6 hsrt hmem hlen nl6 => ⟨l6, _, rfl, sql upd_same, fun t o nt ho => ⟨(by show 2 ≤ sizeLine; decide), fun k o2 nk ho2 => ?_⟩⟩⟩
      have nd := dcz_nd hmem (by omega)
      have hyn : ∀ z ∈ ys, Nm z := fun z hz => hzs z ((hasZ_all zs z).mp ((hmem z).mp hz))
      have s11 : Same H10 (upd (upd (upd H10 st (SetS _ _ st (hasZ zs zs.length) n)) l6 (.lst (ys.map V.str))) t (.frz o (.tup (ys.map V.str)))) := Same.new (Same.new (same_upd nst) nl6) nt
      refine fin ((x02.trans x10).same s11) (w10.same s11) nk ho2 (.cons (.lstr (wl (by decide +kernel))) (.cons (.ltup (n := 0) ⟨o, upd_same, ho⟩ (by rw [List.length_map]; omega) (pstr fun z hz => by have := (hyn z hz).len; omega)) .nil)) (by show 2 ≤ 5000; decide) (.lot _ (lotB_of (by omega) hyn (srt_chain hsrt nd)))
    refine ⟨.int wy, rfl, rfl, _, rfl, ite2 (fun _ => ?_) fun _ => ?_⟩
    · refine ⟨.ref a, rfl, .ref l, rfl, a, c, l, _, rfl, w1, la, hl1, len1, len2, fun H2 x x2 w2 hx => ?_⟩
      obtain ⟨z1, hz1, rfl⟩ := List.mem_map.mp hx
      obtain ⟨n1, n1'⟩ := hnm z1 hz1
      have hl2 := x2 _ _ la hl1
      refine ⟨.ref a, rfl, .ref l, rfl, a, c, l, _, rfl, w2, la, hl2, len1, len2, fun H3 x x3 w3 hx => ⟨_, _, rfl, ?_⟩⟩
      obtain ⟨z2, hz2, rfl⟩ := List.mem_map.mp hx
      obtain ⟨n2, n2'⟩ := hnm z2 hz2
      have x03 := (x1.trans x2).trans x3
      refine ⟨.str z1, rfl, .str z2, rfl, rfl, !decide (z1 = z2), congrArg (fun b => V.bl (!b)) (dstr _ _), ?_⟩
      by_cases e : z1 = z2
      · rw [decide_eq_true e]
        refine iteF ⟨.str z1, rfl, .str z1, rfl, 7, rfl, z1, rfl, by rw [sizeLine_eq]; omega, _, _, rfl, rfl, ?_, (by show 3 ≤ sizeLine; decide), fun k o nk ho => ?_⟩
        · rw [cut7 (by omega), show (Str.ofString "z").length = 1 by decide +kernel, sizeLine_eq]
          omega
        · rw [cut7 (by omega)]
          have hz := nm_z n1 (by omega)
          exact fin x03 w3 nk ho (.cons (.lstr (wl (by decide +kernel))) (.cons (.lstr (by omega)) (.cons (.lstr (by have := hz.len; omega)) .nil))) (by show 3 ≤ 5000; decide) (.two (nmD n1) (nmD hz) ne_z)
      · rw [decide_eq_false e]
        exact iteT ⟨.str z1, rfl, .str z2, rfl, (by show 3 ≤ sizeLine; decide), fun k o nk ho => fin x03 w3 nk ho (.cons (.lstr (wl (by decide +kernel))) (.cons (.lstr (by omega)) (.cons (.lstr (by omega)) .nil))) (by show 3 ≤ 5000; decide) (.two (nmD n1) (nmD n2) e)⟩
    refine ⟨.int wy, rfl, rfl, _, rfl, ite2 (fun _ => ?_) fun _ => ?_⟩
    · refine ⟨.ref a, rfl, .ref l, rfl, a, c, l, _, rfl, w1, la, hl1, len1, len2, fun H2 x x2 w2 hx => ⟨(by show 2 ≤ sizeLine; decide), fun k o nk ho => ?_⟩⟩
      obtain ⟨z, hz, rfl⟩ := List.mem_map.mp hx
      obtain ⟨n1, n2⟩ := hnm z hz
      exact fin (x1.trans x2) w2 nk ho (.cons (.lstr (wl (by decide +kernel))) (.cons (.lstr (by omega)) .nil)) (by show 2 ≤ 5000; decide) (.one (.inr rfl) (nmD n1))
    refine ⟨.int wy, rfl, rfl, _, rfl, ite2 (fun _ => ?_) fun _ => ?_⟩
    · refine ⟨.ref a, rfl, .ref a, rfl, a, c, 40, rfl, w1, (by decide), (by decide), fun H2 r x2 w2 r0 r1 => ⟨_, _, rfl, rfl, (by show 5 ≤ sizeLine; decide), fun p np => ?_⟩⟩
      refine ⟨a, c, p, ([1, 2, 3, 40, 1 + r] : List Int).map V.int, rfl, w2.same (same_upd np), (w2.ne2 np).1, upd_same, (by show 0 < 5; decide), (by show 5 ≤ 100000; decide), fun H3 x x3 w3 hx => ⟨(by show 2 ≤ sizeLine; decide), fun k o nk ho => ?_⟩⟩
      obtain ⟨m, hm, rfl⟩ := List.mem_map.mp hx
      have hm2 : 1 ≤ m ∧ m ≤ 40 := by
        simp only [List.mem_cons, List.not_mem_nil, or_false] at hm
        omega
      exact fin (((x1.trans x2).same (same_upd np)).trans x3) w3 nk ho (.cons (.lstr (wl (by decide +kernel))) (.cons (.lint (by omega)) .nil)) (by show 2 ≤ 5000; decide) (.fst m hm2.1 hm2.2)
    refine ⟨.int wy, rfl, rfl, _, rfl, ite2 (fun _ => ?_) fun _ => ?_⟩
    · exact ⟨(by show 1 ≤ sizeLine; decide), fun k o nk ho => fin x1 w1 nk ho (.cons (.lstr (wl (by decide +kernel))) .nil) (by show 1 ≤ 5000; decide) (.none (.inl rfl))⟩
    · exact ⟨(by show 1 ≤ sizeLine; decide), fun k o nk ho => fin x1 w1 nk ho (.cons (.lstr (wl (by decide +kernel))) .nil) (by show 1 ≤ 5000; decide) (.none (.inr rfl))⟩
end
end Kb

namespace Kb
open PySem PySem.Spec PyProof.Rows L2 SrtZ SrtO RZ StX
theorem DatAt.up {K : PySem.W.Frag} {B L n m : Nat} {H : Hp} {v : V} {d : Dat} (h : DatAt K B L n H v d) (le : n ≤ m) : DatAt K B L m H v d := h.wide (Nat.le_refl _) (Nat.le_refl _) le
theorem pair_up {K : PySem.W.Frag} {B L n m : Nat} {H : Hp} {xs : List V} {ds : List Dat} (h : Paired (DatAt K B L n H) xs ds) (le : n ≤ m) : Paired (DatAt K B L m H) xs ds := paired_imp (fun _ _ h => h.up le) h
theorem pair_keep {K : PySem.W.Frag} {B L n : Nat} {H H' : Hp} {xs : List V} {ds : List Dat} (h : Paired (DatAt K B L n H) xs ds) (k : DKeep K H H') : Paired (DatAt K B L n H') xs ds := paired_imp (fun _ _ h => h.keep k) h
section
variable {P : Program} {w : World} {K : PySem.W.Frag} {mg : Str → Option Value} {base : Heap}
/-! _law_bent_question -/
def spBentQ (K : PySem.W.Frag) : Sp := fun vs H Q _ => ∃ (a c b : Addr) (xs : List V) (ds : List Dat), vs = [.ref a, .ref b] ∧ Wl a c H ∧ Ptp H b xs ∧ xs.length ≤ 10 ∧ Paired (DatAt K (2 ^ 90) 5000 1 H) xs ds ∧ ∀ H' v d, Exw a H H' → Wl a c H' → DtAt K H' v d → Q v H'
theorem ok_bent_question (T : Blt mg) (ddraw : Dndraw K mg) (dany : Dnany K mg) (ddeep : Dndeep K mg) (d : Dnbent_question K mg) : FnOk P w K mg base CX0 3 d.f d.fd ["_law_hand_here", "_law_question_here"] (spBentQ K) := by
  have Gdraw : FnOk P w K mg base CX0 1 ddraw.f ddraw.fd ["_law_hand_here", "_law_many"] spDraw := ok_draw T ddraw
  have Gany : FnOk P w K mg base CX0 2 dany.f dany.fd ["_law_hand_here", "_law_some"] spAny := ok_any T ddraw dany
  have Gdeep : FnOk P w K mg base CX0 1 ddeep.f ddeep.fd ["_law_many"] (spDeep K) := ok_deep T ddeep
  refine d.F.ok scbent_question (fun vs H Q E h => ?_) (fun cdv A outer s H vs Q E hr h => ?_)
  · obtain ⟨a, c, b, xs, ds, rfl, _⟩ := h
    rfl
  · obtain ⟨a, c, b, xs, ds, rfl, hw, hb, hlen, hds, q⟩ := h
    refine ⟨_, (pss_cons (ps_set (i := 2) scbent_question.nd rfl (Or.inl rfl) (pe_lst (pa_cons pe_non (pa_cons pe_bl (pa_cons pe_int (pa_cons pe_int (pa_cons pe_str (pa_cons pe_str (pa_cons pe_str (pa_cons (pe_tupF pa_nil) (pa_cons (pe_lst pa_nil) (pa_cons pe_dnewK (pa_cons (pe_tupF (pa_cons pe_str (pa_cons pe_str pa_nil))) (pa_cons (pe_tupF (pa_cons pe_str (pa_cons pe_str pa_nil))) (pa_cons (pe_lst (pa_cons pe_str pa_nil)) (pa_cons pe_str (pa_cons pe_str (pa_cons pe_str pa_nil))))))))))))))))))
    (pss_cons (ps_set (i := 3) scbent_question.nd rfl (Or.inl rfl) (pe_call Gany (hr.mono (by omega)) (by rfl) dany.g dany.F.kp dany.b .nil pass0 (pa_cons (pv 0) (pa_cons (pe_op op_cat (pv 2) (pe_lst (pa_cons pe_int (pa_cons (pe_call Gdeep (hr.mono (by omega)) (by rfl) ddeep.g ddeep.F.kp ddeep.b .nil pass0 (pa_cons (pe_op op_add pe_int (pe_call Gdraw (hr.mono (by omega)) (by rfl) ddraw.g ddraw.F.kp ddraw.b .nil pass0 (pa_cons (pv 0) (pa_cons pe_int pa_nil)))) pa_nil)) pa_nil)))) pa_nil))))
    (pss_cons (ps_set (i := 4) scbent_question.nd rfl (Or.inl rfl) (pe_call Gdraw (hr.mono (by omega)) (by rfl) ddraw.g ddraw.F.kp ddraw.b .nil pass0 (pa_cons (pv 0) (pa_cons (pe_op op_add (pe_callB call_len_seq (by rfl) T.n_len (by decide +kernel) (pa_cons (pv 1) pa_nil)) pe_int) pa_nil))))
    (pss_cons (ps_set (i := 5) scbent_question.nd rfl (Or.inl rfl) (pe_lst (pa_cons (pe_op op_catP (pe_op op_catP (pe_slice sl_tupP (pv 1) po_none (po_some (pv 4))) (pe_tupF (pa_cons (pv 3) pa_nil))) (pe_slice sl_tupP (pv 1) (po_some (pe_op op_add (pv 4) pe_int)) po_none)) (pa_cons (pe_op op_catP (pe_op op_catP (pe_slice sl_tupP (pv 1) po_none (po_some (pv 4))) (pe_tupF (pa_cons (pv 3) pa_nil))) (pe_slice sl_tupP (pv 1) (po_some (pv 4)) po_none)) (pa_cons (pe_callTy call_list_of (by rfl) T.n_list (by decide +kernel) (pa_cons (pv 1) pa_nil)) pa_nil)))))
    (pss_one (ps_ret (pe_call Gany (hr.mono (by omega)) (by rfl) dany.g dany.F.kp dany.b .nil pass0 (pa_cons (pv 0) (pa_cons (pe_op op_cat (pv 5) (pe_lst (pa_cons (pe_slice sl_tupP (pv 1) po_none (po_some (pe_un un_neg pe_int))) (pa_cons (pv 3) pa_nil)))) pa_nil))))))))), ?_⟩
    refine ⟨(by show 0 ≤ sizeLine; decide), fun t0 o0 nt0 ht0 => ?_⟩
    have s1 : Same H (upd H t0 (.frz o0 (.tup []))) := same_upd nt0
    have g0 : Ptp (upd H t0 (.frz o0 (.tup []))) t0 [] := ⟨o0, upd_same, ht0⟩
    generalize upd H t0 (.frz o0 (.tup [])) = H1 at s1 g0 ⊢
    refine ⟨(by show 0 ≤ sizeLine; decide), fun l0 nl0 => ?_⟩
    have s2 : Same H1 (upd H1 l0 (.lst [])) := same_upd nl0
    have g1 : (upd H1 l0 (.lst [])) l0 = some (.lst []) := upd_same
    generalize upd H1 l0 (.lst []) = H2 at s2 g1 ⊢
    refine fun d0 nd0 => ?_
    have s3 : Same H2 (upd H2 d0 (.dK [])) := same_upd nd0
    have g2 : (upd H2 d0 (.dK [])) d0 = some (.dK []) := upd_same
    generalize upd H2 d0 (.dK []) = H3 at s3 g2 ⊢
    refine ⟨(by show 2 ≤ sizeLine; decide), fun t1 o1 nt1 ht1 => ?_⟩
    have s4 : Same H3 (upd H3 t1 (.frz o1 (.tup [.str (Str.ofString "a"), .str (Str.ofString "a")]))) := same_upd nt1
    have g3 : Ptp (upd H3 t1 (.frz o1 (.tup [.str (Str.ofString "a"), .str (Str.ofString "a")]))) t1 [.str (Str.ofString "a"), .str (Str.ofString "a")] := ⟨o1, upd_same, ht1⟩
    generalize upd H3 t1 (.frz o1 (.tup [.str (Str.ofString "a"), .str (Str.ofString "a")])) = H4 at s4 g3 ⊢
    refine ⟨(by show 2 ≤ sizeLine; decide), fun t2 o2 nt2 ht2 => ?_⟩
    have s5 : Same H4 (upd H4 t2 (.frz o2 (.tup [.str (Str.ofString "b"), .str (Str.ofString "a")]))) := same_upd nt2
    have g4 : Ptp (upd H4 t2 (.frz o2 (.tup [.str (Str.ofString "b"), .str (Str.ofString "a")]))) t2 [.str (Str.ofString "b"), .str (Str.ofString "a")] := ⟨o2, upd_same, ht2⟩
    generalize upd H4 t2 (.frz o2 (.tup [.str (Str.ofString "b"), .str (Str.ofString "a")])) = H5 at s5 g4 ⊢
    refine ⟨(by show 1 ≤ sizeLine; decide), fun l1 nl1 => ?_⟩
    have s6 : Same H5 (upd H5 l1 (.lst [.str (Str.ofString "a")])) := same_upd nl1
    have g5 : (upd H5 l1 (.lst [.str (Str.ofString "a")])) l1 = some (.lst [.str (Str.ofString "a")]) := upd_same
    generalize upd H5 l1 (.lst [.str (Str.ofString "a")]) = H6 at s6 g5 ⊢
    refine ⟨(by show 16 ≤ sizeLine; decide), fun p np => ?_⟩
    have s7 : Same H6 (upd H6 p (.lst [.non, .bl true, .int 0, .int 41, .str (Str.ofString ""), .str (Str.ofString "A"), .str (Str.ofString "abcdefghi"), .ref t0, .ref l0, .ref d0, .ref t1, .ref t2, .ref l1, .str (Str.ofString "count"), .str (Str.ofString "first"), .str (Str.ofString "a")])) := same_upd np
    have hp : (upd H6 p (.lst [.non, .bl true, .int 0, .int 41, .str (Str.ofString ""), .str (Str.ofString "A"), .str (Str.ofString "abcdefghi"), .ref t0, .ref l0, .ref d0, .ref t1, .ref t2, .ref l1, .str (Str.ofString "count"), .str (Str.ofString "first"), .str (Str.ofString "a")])) p = some (.lst [.non, .bl true, .int 0, .int 41, .str (Str.ofString ""), .str (Str.ofString "A"), .str (Str.ofString "abcdefghi"), .ref t0, .ref l0, .ref d0, .ref t1, .ref t2, .ref l1, .str (Str.ofString "count"), .str (Str.ofString "first"), .str (Str.ofString "a")]) := upd_same
    have s06 := same_trans s1 (same_trans s2 (same_trans s3 (same_trans s4 (same_trans s5 s6))))
    have pa := ((hw.same s06).ne2 np).1
    have sl : ∀ {z : Str}, decide (z.length ≤ 5000) = true → z.length ≤ 5000 := fun h => of_decide_eq_true h
    have hz : Paired (DatAt K (2 ^ 90) 5000 1 H6) [.non, .bl true, .int 0, .int 41, .str (Str.ofString ""), .str (Str.ofString "A"), .str (Str.ofString "abcdefghi"), .ref t0, .ref l0, .ref d0, .ref t1, .ref t2, .ref l1, .str (Str.ofString "count"), .str (Str.ofString "first"), .str (Str.ofString "a")] [.non, .bl true, .int 0, .int 41, .str (Str.ofString ""), .str (Str.ofString "A"), .str (Str.ofString "abcdefghi"), .tup [], .odd, .odd, .tup [.str (Str.ofString "a"), .str (Str.ofString "a")], .tup [.str (Str.ofString "b"), .str (Str.ofString "a")], .odd, .str (Str.ofString "count"), .str (Str.ofString "first"), .str (Str.ofString "a")] :=
      .cons .lnon (.cons .lbl (.cons (.lint (by decide)) (.cons (.lint (by decide)) (.cons (.lstr (sl (by decide +kernel))) (.cons (.lstr (sl (by decide +kernel))) (.cons (.lstr (sl (by decide +kernel)))
      (.cons (.ltup (g0.same (same_trans s2 (same_trans s3 (same_trans s4 (same_trans s5 s6))))) (by show 0 ≤ 5000; decide) .nil)
      (.cons (.lodd (.inl ⟨_, sql (s6 _ _ (s5 _ _ (s4 _ _ (s3 _ _ g1))))⟩))
      (.cons (.lodd (.inr (.inl ⟨_, s6 _ _ (s5 _ _ (s4 _ _ g2))⟩)))
      (.cons (.ltup (g3.same (same_trans s5 s6)) (by show 2 ≤ 5000; decide) (.cons (.lstr (sl (by decide +kernel))) (.cons (.lstr (sl (by decide +kernel))) .nil)))
      (.cons (.ltup (g4.same s6) (by show 2 ≤ 5000; decide) (.cons (.lstr (sl (by decide +kernel))) (.cons (.lstr (sl (by decide +kernel))) .nil)))
      (.cons (.lodd (.inl ⟨_, sql g5⟩))
      (.cons (.lstr (sl (by decide +kernel))) (.cons (.lstr (sl (by decide +kernel))) (.cons (.lstr (sl (by decide +kernel))) .nil)))))))))))))))
    have hz7 := pair_keep hz (dk_same s7)
    generalize upd H6 p (.lst [.non, .bl true, .int 0, .int 41, .str (Str.ofString ""), .str (Str.ofString "A"), .str (Str.ofString "abcdefghi"), .ref t0, .ref l0, .ref d0, .ref t1, .ref t2, .ref l1, .str (Str.ofString "count"), .str (Str.ofString "first"), .str (Str.ofString "a")]) = H7 at s7 hp hz7 ⊢
    generalize ho : ([.non, .bl true, .int 0, .int 41, .str (Str.ofString ""), .str (Str.ofString "A"), .str (Str.ofString "abcdefghi"), .ref t0, .ref l0, .ref d0, .ref t1, .ref t2, .ref l1, .str (Str.ofString "count"), .str (Str.ofString "first"), .str (Str.ofString "a")] : List V) = ol at hp hz7
    have hol : ol.length = 16 := by rw [← ho]; rfl
    have s07 := same_trans s06 s7
    have w7 := hw.same s07
    refine ⟨.ref a, rfl, .ref p, rfl, .ref a, rfl, a, c, 20, rfl, w7, (by decide), (by decide), fun H8 r x8 w8 r0 r1 => ?_⟩
    obtain ⟨r, rfl⟩ := Int.eq_ofNat_of_zero_le r0
    refine ⟨_, _, rfl, rfl, 1 + r, rfl, by omega, fun H9 v9 e9 s9 hv9 => ⟨(by show 2 ≤ sizeLine; decide), fun p2 np2 => ?_⟩⟩
    obtain ⟨n9, hv9⟩ := hv9
    have s10 : Same H9 (upd H9 p2 (.lst [.int 1, v9])) := same_upd np2
    have hp2 : (upd H9 p2 (.lst [.int 1, v9])) p2 = some (.lst [.int 1, v9]) := upd_same
    generalize upd H9 p2 (.lst [.int 1, v9]) = H10 at s10 hp2 ⊢
    have s810 := same_trans s9 s10
    have k78 := dk_exw (K := K) x8 w7 w8
    have k710 := k78.trans (dk_same s810)
    have hp10 := s810 _ _ (x8 _ _ pa hp)
    refine ⟨p, p2, _, _, rfl, rfl, hp10, hp2, (by show ol.length + 2 ≤ sizeLine; rw [hol]; decide), fun p3 np3 => ?_⟩
    have s11 : Same H10 (upd H10 p3 (.lst (ol ++ [.int 1, v9]))) := same_upd np3
    have hp3 : (upd H10 p3 (.lst (ol ++ [.int 1, v9]))) p3 = some (.lst (ol ++ [.int 1, v9])) := upd_same
    have w10 := w8.same s810
    have p3a := (w10.ne2 np3).1
    have hz11 : Paired (DatAt K (2 ^ 90) 5000 (max 1 n9) (upd H10 p3 (.lst (ol ++ [.int 1, v9])))) (ol ++ [.int 1, v9]) _ := paired_app (pair_keep (pair_up hz7 (Nat.le_max_left 1 n9)) (k710.trans (dk_same s11))) (.cons (.lint (i := 1) (by decide)) (.cons ((hv9.same (same_trans s10 s11)).up (Nat.le_max_right 1 n9)) .nil))
    have w11 := w10.same s11
    have x011 : Exw a H (upd H10 p3 (.lst (ol ++ [.int 1, v9]))) := ((Same.exw s07).trans x8).same (same_trans s810 s11)
    generalize upd H10 p3 (.lst (ol ++ [.int 1, v9])) = H11 at s11 hp3 hz11 w11 x011 ⊢
    refine ⟨a, c, p3, _, rfl, w11, p3a, hp3, by rw [List.length_append]; show 0 < _ + 2; omega, by rw [List.length_append, hol]; show 18 ≤ _; decide, fun H12 u x12 w12 hu => ?_⟩
    obtain ⟨du, hdu⟩ := pair_mem hz11 hu
    have k1112 := dk_exw (K := K) x12 w11 w12
    have hdu := hdu.keep k1112
    have x012 := x011.trans x12
    have k012 : DKeep K H H12 := dk_exw (K := K) x012 hw w12
    have hb12 := k012.t _ _ hb
    refine ⟨.ref a, rfl, .ref b, rfl, b, _, rfl, .inr hb12.seq, _, _, rfl, rfl, a, c, ((xs.length : Nat) : Int) + 1, rfl, w12, by omega, by omega, fun H13 at_ x13 w13 a0 a1 => ?_⟩
    have k1213 := dk_exw (K := K) x13 w12 w13
    have x013 := x012.trans x13
    have hu13 := hdu.keep k1213
    have hb13 := k1213.t _ _ hb12
    generalize hN : max 1 n9 = N at hu13 hdu hz11
    have hN1 : 1 ≤ N := by omega
    have hds13 : Paired (DatAt K (2 ^ 90) 5000 N H13) xs ds := pair_keep (pair_up hds hN1) (k012.trans k1213)
    have cl := fun lo hi => cut_le xs lo hi
    -- the first
    refine ⟨.ref b, rfl, .int at_, rfl, at_, rfl, b, _, rfl, hb13, fun u1 H14 s14 hu1 => ⟨u, rfl, (by show 1 ≤ sizeLine; decide), fun u2 o2' nu2 ho2 => ?_⟩⟩
    refine ⟨u1, u2, _, _, rfl, rfl, hu1.same (same_upd nu2), ⟨o2', upd_same, ho2⟩, by have := cl none (some at_); rw [sizeLine_eq]; show _ + 1 ≤ _; omega, fun u3 H15 s15 hu3 => ?_⟩
    have s1315 := same_trans s14 (same_trans (same_upd nu2) s15)
    refine ⟨.ref b, rfl, .int at_, rfl, _, _, rfl, rfl, at_ + 1, rfl, b, _, rfl, hb13.same s1315, fun u4 H16 s16 hu4 => ⟨u3, u4, _, _, rfl, rfl, hu3.same s16, hu4, by have := cl none (some at_); have := cl (some (at_ + 1)) none; rw [List.length_append, sizeLine_eq]; show _ + 1 + _ ≤ _; omega, fun u5 H17 s17 hu5 => ?_⟩⟩
    have s1317 := same_trans s1315 (same_trans s16 s17)
    have e5 : ∃ d5, DatAt K (2 ^ 90) 5000 (N + 1) H17 (.ref u5) d5 := by
      obtain ⟨e1, p1⟩ := pair_cut hds13 none (some at_)
      obtain ⟨e2, p2⟩ := pair_cut hds13 (some (at_ + 1)) none
      refine ⟨_, .ltup hu5 ?_ (paired_app (paired_app (pair_keep p1 (dk_same s1317)) (.cons (hu13.same s1317) .nil)) (pair_keep p2 (dk_same s1317)))⟩
      have := cl none (some at_)
      have := cl (some (at_ + 1)) none
      rw [List.length_append, List.length_append]
      show _ + 1 + _ ≤ _
      omega
    -- the second
    refine ⟨.ref b, rfl, .int at_, rfl, at_, rfl, b, _, rfl, hb13.same s1317, fun v1 H18 s18 hv1 => ⟨u, rfl, (by show 1 ≤ sizeLine; decide), fun v2 o3' nv2 ho3 => ?_⟩⟩
    refine ⟨v1, v2, _, _, rfl, rfl, hv1.same (same_upd nv2), ⟨o3', upd_same, ho3⟩, by have := cl none (some at_); rw [sizeLine_eq]; show _ + 1 ≤ _; omega, fun v3 H19 s19 hv3 => ?_⟩
    have s1719 := same_trans s18 (same_trans (same_upd nv2) s19)
    refine ⟨.ref b, rfl, .int at_, rfl, at_, rfl, b, _, rfl, hb13.same (same_trans s1317 s1719), fun v4 H20 s20 hv4 => ⟨v3, v4, _, _, rfl, rfl, hv3.same s20, hv4, by have := cl none (some at_); have := cl (some at_) none; rw [List.length_append, sizeLine_eq]; show _ + 1 + _ ≤ _; omega, fun v5 H21 s21 hv5 => ?_⟩⟩
    have s1721 := same_trans s1719 (same_trans s20 s21)
    have s1321 := same_trans s1317 s1721
    have e6 : ∃ d6, DatAt K (2 ^ 90) 5000 (N + 1) H21 (.ref v5) d6 := by
      obtain ⟨e1, p1⟩ := pair_cut hds13 none (some at_)
      obtain ⟨e2, p2⟩ := pair_cut hds13 (some at_) none
      refine ⟨_, .ltup hv5 ?_ (paired_app (paired_app (pair_keep p1 (dk_same s1321)) (.cons (hu13.same s1321) .nil)) (pair_keep p2 (dk_same s1321)))⟩
      have := cl none (some at_)
      have := cl (some at_) none
      rw [List.length_append, List.length_append]
      show _ + 1 + _ ≤ _
      omega
    -- list(..)
    refine ⟨.ref b, rfl, b, _, rfl, .inr (hb13.same s1321).seq, fun l5 nl5 => ⟨(by show 3 ≤ sizeLine; decide), fun p5 np5 => ?_⟩⟩
    have s22 := same_upd (o := .lst xs) nl5
    have hl5 : (upd H21 l5 (.lst xs)) l5 = some (.lst xs) := upd_same
    generalize upd H21 l5 (.lst xs) = H22 at s22 hl5 np5 ⊢
    have s23 := same_upd (o := .lst [.ref u5, .ref v5, .ref l5]) np5
    have hp5 : (upd H22 p5 (.lst [.ref u5, .ref v5, .ref l5])) p5 = some (.lst [.ref u5, .ref v5, .ref l5]) := upd_same
    generalize upd H22 p5 (.lst [.ref u5, .ref v5, .ref l5]) = H23 at s23 hp5 ⊢
    have s1323 := same_trans s1321 (same_trans s22 s23)
    obtain ⟨d5, e5⟩ := e5
    obtain ⟨d6, e6⟩ := e6
    have f23 : Paired (DatAt K (2 ^ 90) 5000 (N + 1) H23) [.ref u5, .ref v5, .ref l5] [d5, d6, .odd] := .cons (e5.same (same_trans s1721 (same_trans s22 s23))) (.cons (e6.same (same_trans s22 s23)) (.cons (.lodd (.inl ⟨_, sql (s23 _ _ hl5)⟩)) .nil))
    -- the last
    refine ⟨.ref a, rfl, .ref p5, rfl, .ref b, rfl, 1, rfl, -1, rfl, b, _, rfl, hb13.same s1323, fun u6 H24 s24 hu6 => ⟨u, rfl, (by show 2 ≤ sizeLine; decide), fun p6 np6 => ?_⟩⟩
    have s25 := same_upd (o := .lst [.ref u6, u]) np6
    have hp6 : (upd H24 p6 (.lst [.ref u6, u])) p6 = some (.lst [.ref u6, u]) := upd_same
    generalize upd H24 p6 (.lst [.ref u6, u]) = H25 at s25 hp6 ⊢
    have s2325 := same_trans s24 s25
    refine ⟨p5, p6, _, _, rfl, rfl, s2325 _ _ hp5, hp6, (by show 5 ≤ sizeLine; decide), fun p7 np7 => ?_⟩
    have s1325 := same_trans s1323 s2325
    have w25 := w13.same s1325
    have p7a := (w25.ne2 np7).1
    have s26 := same_upd (o := .lst ([.ref u5, .ref v5, .ref l5] ++ [.ref u6, u])) np7
    have hp7 : (upd H25 p7 (.lst ([.ref u5, .ref v5, .ref l5] ++ [.ref u6, u]))) p7 = some (.lst ([.ref u5, .ref v5, .ref l5] ++ [.ref u6, u])) := upd_same
    generalize upd H25 p7 (.lst ([.ref u5, .ref v5, .ref l5] ++ [.ref u6, u])) = H26 at s26 hp7 ⊢
    obtain ⟨e7, p7d⟩ := pair_cut hds13 none (some (-1))
    have s1326 := same_trans s1325 s26
    have f26 : Paired (DatAt K (2 ^ 90) 5000 (N + 1) H26) ([.ref u5, .ref v5, .ref l5] ++ [.ref u6, u]) ([d5, d6, .odd] ++ [.tup e7, du]) :=
      paired_app (pair_keep f23 (dk_same (same_trans s2325 s26))) (.cons (.ltup (hu6.same (same_trans s25 s26)) (by have := cl none (some (-1)); omega) (pair_keep p7d (dk_same s1326))) (.cons ((hu13.same s1326).up (Nat.le_succ _)) .nil))
    have w26 := w25.same s26
    refine ⟨a, c, p7, _, rfl, w26, p7a, hp7, (by show 0 < 5; decide), (by show 5 ≤ 100000; decide), fun H27 z x27 w27 hz => ?_⟩
    obtain ⟨dz, hdz⟩ := pair_mem f26 hz
    exact q H27 z dz ((x013.same s1326).trans x27) w27 ⟨_, hdz.keep (dk_exw (K := K) x27 w26 w27)⟩
/-! _law_told -/
/-- the error that the law names -/
structure ErK (K : PySem.W.Frag) (mg : Str → Option Value) where
  N : TxE K mg "NoQuestion"
  KE : Addr
  gKE : mg "KnownError" = some (.ref KE)
  nV : mg "ValueError" = none
  xNN : PySem.W.exmOne K (.ref N.C) (.ref N.C) = some true
  kK : PySem.W.kitOne K (.ref N.C) (.ref KE) = some true
  kV : PySem.W.kitOne K (.ref N.C) (.type "ValueError") = some true
def toldV (d : Dat) : V := if qnD d = true then .str (qtx d) else .non
def spTold (K : PySem.W.Frag) : Sp := fun vs H Q _ => ∃ (v : V) (d : Dat), vs = [v] ∧ DtAt K H v d ∧ ∀ H', Same H H' → Q (toldV d) H'
theorem ok_told (T : Blt mg) (F : ErK K mg) (cL : Cst mg "LONGEST_NAME" (.int 8)) (cA : Cst mg "MOST_ASKED" (.int 40)) (n_zip : mg "zip" = none) (dP_is_int : DnIsInt K mg) (dP_is_name : DnIsName K mg) (dP_is_lot : DnIsLot K mg) (dP_is_question : DnIsQuestion K mg) (dP_question_text : DnQuestionText K mg) (d : Dntold K mg) : FnOk P w K mg base CX0 5 d.f d.fd ["_law_thing"] (spTold K) := by
  have GQ : FnOk P w K mg base (L2.CX P w) 4 dP_question_text.f dP_question_text.fd ["question"] (fun vs H Q E => spQtext K vs H Q E ∨ spQtextR K F.N.C vs H Q E) := fn_or (fn_lift (ok_qtext T cL cA n_zip dP_is_int dP_is_name dP_is_lot dP_is_question dP_question_text)) (ok_qtextR T F.N cL cA n_zip dP_is_int dP_is_name dP_is_lot dP_is_question dP_question_text)
  refine d.F.ok sctold (fun vs H Q E h => ?_) (fun cdv A outer s H vs Q E hr h => ?_)
  · obtain ⟨v, x, rfl, _⟩ := h
    rfl
  · obtain ⟨v, x, rfl, hx, q⟩ := h
    have three' : ∀ {σ : L2.St}, σ.length = 3 → ∃ x0 x1 x2, σ = [x0, x1, x2] := fun {σ} h => match σ, h with | [a, b, c], _ => ⟨a, b, c, rfl⟩
    refine ⟨_, (pss_cons (ps_try_as (i := 2) (Wout := fun _ _ _ _ => False) rfl rfl sctold.nd rfl rfl ⟨rfl, by decide, Or.inl F.N.gC⟩ takes0
      (fun W pn xe tk _ => pss_one (ps_set (i := 1) sctold.nd rfl (Or.inl rfl) (by exact (pe_call GQ (hr.mono (by omega)) rfl dP_question_text.g dP_question_text.F.kp dP_question_text.b .nil (passEL (n := 3) rfl tk) (by exact (pa_cons (pv 0) pa_nil))))))
      (fun a oe cls d pn hz hf => pss_one (ps_set (i := 1) sctold.nd rfl (Or.inl rfl) (by exact (pe_ifExp (PW.pt (pw_and (pt_val (pe_callB (call_isErr F.N.isC hz hf) (by rfl) T.n_isinstance (by decide +kernel) (pa_cons (pv 2) (pa_cons (pe_glob (v := .ref F.KE) rfl F.gKE rfl) pa_nil)))) (pw_and1 (pt_val (pe_callB (call_isErr F.N.isC hz hf) (by rfl) T.n_isinstance (by decide +kernel) (pa_cons (pv 2) (pa_cons (pe_bltn (v := .ty "ValueError") (by rfl) F.nV (by decide +kernel) rfl) pa_nil))))))) pe_non pe_int)))))
    (pss_one (ps_ret (pv 1)))), ?_⟩
    unfold toldV at q
    cases e : qnD x with
    | true =>
      rw [e, if_pos rfl] at q
      exact ⟨v, rfl, .inl ⟨v, x, rfl, hx, e, fun H' s => ⟨_, rfl, q H' s⟩⟩⟩
    | false =>
      rw [e, if_neg Bool.noConfusion] at q
      refine ⟨v, rfl, .inr ⟨v, x, rfl, hx, e, fun H' s' σ hσ => ?_⟩⟩
      obtain ⟨x0, x1, x2, rfl⟩ := three' hσ
      refine ⟨true, F.xNN, fun _ a0 _ => ?_, fun z => Bool.noConfusion z⟩
      exact ⟨.ref a0, rfl, rfl, rfl, .ref F.KE, .ref F.KE, true, rfl, fun u hu => hu, F.kK, true, rfl, iteT ⟨.ref a0, rfl, rfl, rfl, .ty "ValueError", .type "ValueError", true, rfl, fun u hu => hu, F.kV, true, rfl, iteT ⟨_, rfl, q H' s'⟩⟩⟩
end
end Kb

namespace Kb
open PySem PySem.Spec PyProof.Rows L2 SrtZ SrtO RZ StX
/-! questions, as their repr shows them -/
def pyL : Dat → PyData
  | .str z => .str z
  | .int i => .int i
  | .bl b => .bool b
  | _ => .none
def pyP : Dat → PyData
  | .tup ks => .tuple (ks.map pyL)
  | d => pyL d
def pyX : Dat → PyData
  | .tup ds => .tuple (ds.map pyP)
  | d => pyL d
structure Lfy (p : PyData) : Prop where
  sh : p.showable = true
  nd : p.hasDict = false
  dp : p.depth = 0
  lv : p.leavesShort 13 = true
  wt : p.weight ≤ 50
structure Lfs (ps : List PyData) : Prop where
  sh : PyData.showableAll ps = true
  nd : PyData.hasDictAll ps = false
  dp : PyData.depthAll ps ≤ 1
  lv : PyData.leavesShortAll 13 ps = true
theorem lfs_of : ∀ {ps : List PyData}, (∀ p ∈ ps, Lfy p) → Lfs ps ∧ PyData.weightAll ps ≤ 51 * ps.length ∧ PyData.depthAll ps = 0
  | [], _ => ⟨⟨rfl, rfl, Nat.zero_le _, rfl⟩, Nat.le_refl _, rfl⟩
  | p :: ps, h => by
    have h1 := h p List.mem_cons_self
    obtain ⟨h2, h3, h4⟩ := lfs_of (ps := ps) fun x hx => h x (List.mem_cons_of_mem _ hx)
    have e : PyData.depthAll (p :: ps) = 0 := by
      show max p.depth (PyData.depthAll ps) = 0
      rw [h1.dp, h4]
      rfl
    refine ⟨⟨?_, ?_, by omega, ?_⟩, ?_, e⟩
    · show (p.showable && PyData.showableAll ps) = true
      rw [h1.sh, h2.sh]
      rfl
    · show (p.hasDict || PyData.hasDictAll ps) = false
      rw [h1.nd, h2.nd]
      rfl
    · show (p.leavesShort 13 && PyData.leavesShortAll 13 ps) = true
      rw [h1.lv, h2.lv]
      rfl
    · show p.weight + 1 + PyData.weightAll ps ≤ 51 * (ps.length + 1)
      have := h1.wt
      omega
/-- a text that is short and plain -/
def plB (z : Str) : Bool := decide (z.length ≤ 8) && z.cps.toList.all fun c => decide (c < 16 ^ 8)
theorem nm_pl {z : Str} (h : Nm z) : plB z = true := by
  unfold plB
  rw [decide_eq_true h.len, Bool.true_and, List.all_eq_true]
  intro c hc
  have h2 := h.abc c hc
  unfold nmC at h2
  rw [Bool.and_eq_true, Bool.not_eq_true', Bool.not_eq_true', decide_eq_false_iff_not, decide_eq_false_iff_not] at h2
  have : c ≤ 122 := by omega
  exact decide_eq_true (Nat.lt_of_le_of_lt this (by decide))
theorem lfy_str {z : Str} (h : plB z = true) : Lfy (.str z) := by
  unfold plB at h
  rw [Bool.and_eq_true, decide_eq_true_eq] at h
  exact ⟨rfl, rfl, rfl, h.2, by show z.cps.size ≤ 50; have : z.cps.size = z.length := rfl; omega⟩
theorem lfy_int {i : Int} (h1 : 1 ≤ i) (h2 : i ≤ 40) : Lfy (.int i) := by
  refine ⟨decide_eq_true (log_small h1 h2), rfl, rfl, ?_, ?_⟩
  · show decide ((PyData.shown (.int i)).length ≤ 13) = true
    rw [PyData.shown_int]
    obtain ⟨n, a, b, rfl⟩ := itx_of h1 h2
    have h := itx_wd n a
    unfold wdB at h
    rw [Bool.and_eq_true, decide_eq_true_eq] at h
    exact decide_eq_true (Nat.le_trans h.1 (by decide))
  · show (if (i == 0) = true then 0 else i.natAbs.log2 + 1) ≤ 50
    have := Nat.log2_le_self i.natAbs
    split <;> omega
/-- what repr asks of a thing -/
structure Shw (d : PyData) : Prop where
  sh : d.showable = true
  nd : d.hasDict = false
  dp : d.depth ≤ 60
  le : d.shown.length ≤ sizeLine
theorem shw_tup {ps : List PyData} (h : Lfs ps) (hw : PyData.weightAll ps ≤ 10000) : Shw (.tuple ps) := by
  refine ⟨h.sh, h.nd, ?_, ?_⟩
  · show PyData.depthAll ps + 1 ≤ 60
    have := h.dp
    omega
  · have := PyData.shown_le 13 (by decide) (.tuple ps) (show (PyData.tuple ps).leavesShort 13 = true from h.lv)
    have e : (PyData.tuple ps).weight = PyData.weightAll ps := rfl
    rw [e] at this
    rw [sizeLine_eq]
    omega
theorem wrd_pl {w : Str} {ps : List Dat} (h : QnV w ps) : plB w = true := by
  cases h with
  | lot => decide +kernel
  | fst => decide +kernel
  | none c => rcases c with rfl | rfl <;> decide +kernel
  | one c => rcases c with rfl | rfl <;> decide +kernel
  | two => decide +kernel
theorem names_lf {ks : List Dat} (h : ks.all nameD = true) : ∀ p ∈ ks.map pyL, Lfy p := fun p hp => by
  obtain ⟨k, hk, rfl⟩ := List.mem_map.mp hp
  obtain ⟨z, rfl, n⟩ := nameD_is (List.all_eq_true.mp h k hk)
  exact lfy_str (nm_pl n)
theorem q_shw {w : Str} {ps : List Dat} (h : QnV w ps) : Shw (pyX (.tup (.str w :: ps))) := by
  have hw : Lfy (.str w) := lfy_str (wrd_pl h)
  have flat : ∀ {qs : List PyData}, (∀ p ∈ qs, Lfy p) → qs.length ≤ 2 → Shw (.tuple (.str w :: qs)) := fun {qs} hq hl => by
    obtain ⟨h1, h2, _⟩ := lfs_of (ps := .str w :: qs) fun p hp => by
      rcases List.mem_cons.mp hp with rfl | hp
      · exact hw
      · exact hq p hp
    refine shw_tup h1 ?_
    rw [List.length_cons] at h2
    omega
  cases h with
  | lot ks hk =>
    obtain ⟨a1, a2, _⟩ := lot_parts hk
    obtain ⟨h1, h2, h3⟩ := lfs_of (names_lf a2)
    rw [List.length_map] at h2
    show Shw (.tuple [.str (Str.ofString "lot"), .tuple (ks.map pyL)])
    refine shw_tup ⟨?_, ?_, ?_, ?_⟩ ?_
    · show (true && (PyData.showableAll (ks.map pyL) && true)) = true
      rw [h1.sh]
      rfl
    · show (false || (PyData.hasDictAll (ks.map pyL) || false)) = false
      rw [h1.nd]
      rfl
    · show max 0 (max (PyData.depthAll (ks.map pyL) + 1) 0) ≤ 1
      rw [h3]
      decide
    · show ((PyData.str (Str.ofString "lot")).leavesShort 13 && (PyData.leavesShortAll 13 (ks.map pyL) && true)) = true
      rw [hw.lv, h1.lv]
      rfl
    · show (PyData.str (Str.ofString "lot")).weight + 1 + (PyData.weightAll (ks.map pyL) + 1 + 0) ≤ 10000
      have := hw.wt
      omega
  | fst i h1 h2 =>
    refine flat (qs := [.int i]) (fun p hp => ?_) (by show 1 ≤ 2; decide)
    rw [List.mem_singleton.mp hp]
    exact lfy_int h1 h2
  | none c => exact flat (qs := []) (fun _ h => nomatch h) (Nat.zero_le _)
  | one c h =>
    obtain ⟨z1, rfl, n1⟩ := nameD_is h
    refine flat (qs := [.str z1]) (fun p hp => ?_) (by show 1 ≤ 2; decide)
    rw [List.mem_singleton.mp hp]
    exact lfy_str (nm_pl n1)
  | two h1 h2 h3 =>
    obtain ⟨z1, rfl, n1⟩ := nameD_is h1
    obtain ⟨z2, rfl, n2⟩ := nameD_is h2
    refine flat (qs := [.str z1, .str z2]) (fun p hp => ?_) (by show 2 ≤ 2; decide)
    rcases List.mem_cons.mp hp with rfl | hp
    · exact lfy_str (nm_pl n1)
    · rw [List.mem_singleton.mp hp]
      exact lfy_str (nm_pl n2)
theorem names_dp {K : PySem.W.Frag} {H : Hp} : ∀ {ks : List Dat} {xs : List V}, ks.all nameD = true → Paired (DtAt K H) xs ks → DpAll K H xs (ks.map pyL)
  | _, _, _, .nil => .nil
  | k :: ks, _, c, .cons h t => by
    rw [List.all_cons, Bool.and_eq_true] at c
    obtain ⟨z, rfl, n⟩ := nameD_is c.1
    obtain ⟨rfl, _⟩ := h.str
    exact .cons (.str z) (names_dp c.2 t)
theorem q_dp {K : PySem.W.Frag} {H : Hp} {w : Str} {ps : List Dat} {v : V} (h : QnV w ps) (hv : DtAt K H v (.tup (.str w :: ps))) : Dp K H v (pyX (.tup (.str w :: ps))) ∧ ∃ a, v = .ref a := by
  obtain ⟨a, xs, rfl, h1, h2, h3⟩ := hv.tup
  refine ⟨.tup h1.seq ?_, a, rfl⟩
  cases h3 with
  | cons e t =>
    obtain ⟨rfl, _⟩ := e.str
    refine .cons (.str w) ?_
    cases h with
    | lot ks hk =>
      cases t with
      | cons e t =>
        cases t
        obtain ⟨b, ys, rfl, k1, k2, k3⟩ := e.tup
        exact .cons (.tup k1.seq (names_dp (lot_parts hk).2.1 k3)) .nil
    | fst i h1 h2 =>
      cases t with
      | cons e t =>
        cases t
        obtain ⟨rfl, _⟩ := e.int
        exact .cons (.int i) .nil
    | none c =>
      cases t
      exact .nil
    | one c h =>
      obtain ⟨z1, rfl, n1⟩ := nameD_is h
      cases t with
      | cons e t =>
        cases t
        obtain ⟨rfl, _⟩ := e.str
        exact .cons (.str z1) .nil
    | two g1 g2 g3 =>
      obtain ⟨z1, rfl, n1⟩ := nameD_is g1
      obtain ⟨z2, rfl, n2⟩ := nameD_is g2
      cases t with
      | cons e t =>
        obtain ⟨rfl, _⟩ := e.str
        cases t with
        | cons e t =>
          obtain ⟨rfl, _⟩ := e.str
          cases t
          exact .cons (.str z1) (.cons (.str z2) .nil)
theorem DtAt.non {K : PySem.W.Frag} {H : Hp} {v : V} (h : DtAt K H v .non) : v = .non := by
  obtain ⟨n, h⟩ := h
  rcases h.cases with h | ⟨m, a, xs, ds, rfl, rfl, e, h1, h2, h3⟩
  · exact h
  · cases e
theorem rdQ_is (ws : List Str) : rdQ ws = .non ∨ qnD (rdQ ws) = true := by
  unfold rdQ
  split
  · exact .inr ‹_›
  · exact .inl rfl
/-- repr's premises, of a question or None -/
theorem rd_repr {K : PySem.W.Frag} {H : Hp} {d : Dat} {v : V} (h : d = .non ∨ qnD d = true) (hv : DtAt K H v d) : Dp K H v (pyX d) ∧ Shw (pyX d) ∧ ∀ i, v = .int i → i.natAbs.log2 < 1920 := by
  rcases h with rfl | h
  · have := hv.non
    subst this
    refine ⟨.non, ⟨rfl, rfl, Nat.zero_le _, ?_⟩, fun i e => nomatch e⟩
    show (PyData.none).shown.length ≤ sizeLine
    rw [PyData.shown_none, sizeLine_eq]
    decide +kernel
  · obtain ⟨w, ps, rfl, hq⟩ := qn_view h
    obtain ⟨h1, a, rfl⟩ := q_dp hq hv
    exact ⟨h1, q_shw hq, fun i e => nomatch e⟩
theorem qnv_len {w : Str} {ps : List Dat} (h : QnV w ps) : ps.length ≤ 2 := by
  cases h with
  | lot => show 1 ≤ 2; decide
  | fst => show 1 ≤ 2; decide
  | none => exact Nat.zero_le _
  | one => show 1 ≤ 2; decide
  | two => show 2 ≤ 2; decide
end Kb

namespace Kb
open PySem PySem.Spec PyProof.Rows L2 SrtZ SrtO RZ StX
abbrev slaw : Stmt := topS 34
abbrev Nlaw : List Str := ["_law_script", "_law_hand_here", "_law_pool_here", "_law_turn", "_law_question_here", "_law_text", "_law_change", "_law_bent", "_law_odd"]
theorem sclaw : FnScope ["_law_script", "_law_hand_here", "_law_pool_here", "_law_turn", "_law_question_here", "_law_text", "_law_change", "_law_bent", "_law_odd"] ["_law_script"] (defScope slaw) := ⟨rfl, rfl, rfl, by decide +kernel, rfl, by decide +kernel, by decide +kernel⟩
abbrev Dnlaw (K : PySem.W.Frag) (mg : Str → Option Value) := Dn K mg "law" slaw ["_law_script"]
def spLaw (K : PySem.W.Frag) : Sp := fun vs H Q _ => ∃ (a : Addr) (ns : List Int), vs = [.ref a] ∧ SqL K H a (ns.map V.int) ∧ ns.length ≤ 63 ∧ ∀ H', Q (.bl true) H'
section
variable {P : Program} {w : World} {K : PySem.W.Frag} {mg : Str → Option Value}
theorem ok_law (T : Blt mg) (n_repr : mg "repr" = none) (n_zip : mg "zip" = none) (F : ErK K mg) (cL : Cst mg "LONGEST_NAME" (.int 8)) (cA : Cst mg "MOST_ASKED" (.int 40)) (cD : Cst mg "MOST_DIGITS" (.int 12))
    (dP_is_int : DnIsInt K mg) (dP_is_name : DnIsName K mg) (dP_is_lot : DnIsLot K mg) (dP_is_question : DnIsQuestion K mg) (dP_question_text : DnQuestionText K mg) (dP_number : DnNumber K mg) (dP_question : DnWordsQuestion K mg) (dP_read_question : DnReadQuestion K mg)
    (dhand : Dnhand K mg) (ddraw : Dndraw K mg) (dany : Dnany K mg) (dis_int : Dnis_int K mg) (ddeep : Dndeep K mg) (dpool : Dnpool K mg) (dquestion : Dnquestion K mg) (dquestion_text : Dnquestion_text K mg) (dis_name : Dnis_name K mg) (dnumber_of : Dnnumber_of K mg) (dread_question : Dnread_question K mg) (dbent_text : Dnbent_text K mg) (dis_question : Dnis_question K mg) (dbent_question : Dnbent_question K mg) (dtold : Dntold K mg)
    (d : Dnlaw K mg) : TopOk P w K mg d.f d.fd "_law_script" (spLaw K) := by
  refine top_of (k := 13) d.F sclaw ⟨rfl, by decide, by decide⟩ fun base cdv A s H v hg hr h => ?_
  have hg2 : (A.deeper (envOfC (Str.ofString "law") (defScope slaw) s.heap.objs.size d.f cdv)).guards = some [] := hg
  have Ghand : FnOk P w K mg base CX0 1 dhand.f dhand.fd ["_law_script"] (spHand K) := ok_hand T dhand
  have Gdraw : FnOk P w K mg base CX0 1 ddraw.f ddraw.fd ["_law_hand_here", "_law_many"] spDraw := ok_draw T ddraw
  have Gany : FnOk P w K mg base CX0 2 dany.f dany.fd ["_law_hand_here", "_law_some"] spAny := ok_any T ddraw dany
  have Gdeep : FnOk P w K mg base CX0 1 ddeep.f ddeep.fd ["_law_many"] (spDeep K) := ok_deep T ddeep
  have Gpool : FnOk P w K mg base CX0 3 dpool.f dpool.fd ["_law_hand_here", "_law_many"] spPool := ok_pool T ddraw dany dpool
  have Gquestion : FnOk P w K mg base CX0 3 dquestion.f dquestion.fd ["_law_hand_here", "_law_pool_here"] (spQuestionL K) := ok_question T ddraw dany dquestion
  have Gquestion_text : FnOk P w K mg base CX0 1 dquestion_text.f dquestion_text.fd ["_law_question_here"] (spQtext K) := ok_qtextL T dquestion_text
  have GP_question_text : FnOk P w K mg base CX0 4 dP_question_text.f dP_question_text.fd ["question"] (spQtext K) := ok_qtext T cL cA n_zip dP_is_int dP_is_name dP_is_lot dP_is_question dP_question_text
  have GP_read_question : FnOk P w K mg base CX0 5 dP_read_question.f dP_read_question.fd ["text"] (spRead K) := ok_read T cL cA cD n_zip dP_is_int dP_is_name dP_is_lot dP_is_question dP_number dP_question dP_read_question
  have Gread_question : FnOk P w K mg base CX0 2 dread_question.f dread_question.fd ["_law_text"] (spReadL K) := ok_readL T dis_name dnumber_of dread_question
  have Gbent_text : FnOk P w K mg base CX0 3 dbent_text.f dbent_text.fd ["_law_hand_here", "_law_text"] spBentText := ok_bent_text T ddraw dany dbent_text
  have Gis_question : FnOk P w K mg base CX0 2 dis_question.f dis_question.fd ["_law_thing"] (spIsQuestionD K) := ok_is_questionL T T.n_set dis_int dis_name dis_question
  have Gbent_question : FnOk P w K mg base CX0 3 dbent_question.f dbent_question.fd ["_law_hand_here", "_law_question_here"] (spBentQ K) := ok_bent_question T ddraw dany ddeep dbent_question
  have Gtold : FnOk P w K mg base CX0 5 dtold.f dtold.fd ["_law_thing"] (spTold K) := ok_told T F cL cA n_zip dP_is_int dP_is_name dP_is_lot dP_is_question dP_question_text dtold
  have neS : ∀ z : Str, (!decide (V.str z = V.str z)) = false := fun z => by rw [decide_eq_true rfl]; rfl
  obtain ⟨a0, ns0, ev, ha, hl, q⟩ := h
  cases ev
  refine ⟨_, (pss_cons (ps_set (i := 1) sclaw.nd rfl (Or.inl rfl) (pe_call Ghand (hr.mono (by omega)) (by rfl) dhand.g dhand.F.kp dhand.b .nil pass0 (pa_cons (pv 0) pa_nil)))
    (pss_cons (ps_set (i := 2) sclaw.nd rfl (Or.inl rfl) (pe_call Gpool (hr.mono (by omega)) (by rfl) dpool.g dpool.F.kp dpool.b .nil pass0 (pa_cons (pv 1) (pa_cons (pe_op op_add pe_int (pe_call Gdraw (hr.mono (by omega)) (by rfl) ddraw.g ddraw.F.kp ddraw.b .nil pass0 (pa_cons (pv 1) (pa_cons pe_int pa_nil)))) pa_nil))))
    (pss_cons (ps_for PassesOwn.never rfl (pi_range1 (by rfl) T.n_range (pa_cons pe_int pa_nil)) (pg_name (i := 3) sclaw.nd rfl (Or.inl rfl))
      (pss_cons (ps_set (i := 4) sclaw.nd rfl (Or.inl rfl) (pe_call Gquestion (hr.mono (by omega)) (by rfl) dquestion.g dquestion.F.kp dquestion.b .nil pass0 (pa_cons (pv 1) (pa_cons (pv 2) pa_nil))))
      (pss_cons (ps_set (i := 5) sclaw.nd rfl (Or.inl rfl) (pe_call Gquestion_text (hr.mono (by omega)) (by rfl) dquestion_text.g dquestion_text.F.kp dquestion_text.b .nil pass0 (pa_cons (pv 4) pa_nil)))
      (pss_cons (ps_if (PW.pt (pw_or (pt_cmpR op_ne (pe_call GP_question_text (hr.mono (by omega)) (by rfl) dP_question_text.g dP_question_text.F.kp dP_question_text.b .nil pass0 (pa_cons (pv 4) pa_nil)) (pv 5) (nomark _)) (pw_or1 (pt_cmpR op_ne (pe_callB (call_reprD hg2 hr.units) (by rfl) n_repr (by decide +kernel) (pa_cons (pe_call GP_read_question (hr.mono (by omega)) (by rfl) dP_read_question.g dP_read_question.F.kp dP_read_question.b .nil pass0 (pa_cons (pv 5) pa_nil)) pa_nil)) (pe_callB (call_reprD hg2 hr.units) (by rfl) n_repr (by decide +kernel) (pa_cons (pv 4) pa_nil)) (nomark _)))))
        (pss_one (ps_ret pe_bl))
        pss_nil)
      (pss_cons (ps_for PassesOwn.never rfl (pi_range1 (by rfl) T.n_range (pa_cons (pe_op op_add pe_int (pe_call Gdraw (hr.mono (by omega)) (by rfl) ddraw.g ddraw.F.kp ddraw.b .nil pass0 (pa_cons (pv 1) (pa_cons pe_int pa_nil)))) pa_nil)) (pg_name (i := 6) sclaw.nd rfl (Or.inl rfl))
        (pss_one (ps_set (i := 5) sclaw.nd rfl (Or.inl rfl) (pe_call Gbent_text (hr.mono (by omega)) (by rfl) dbent_text.g dbent_text.F.kp dbent_text.b .nil pass0 (pa_cons (pv 1) (pa_cons (pv 5) pa_nil))))))
      (pss_cons (ps_if (pt_cmpR op_ne (pe_callB (call_reprD hg2 hr.units) (by rfl) n_repr (by decide +kernel) (pa_cons (pe_call GP_read_question (hr.mono (by omega)) (by rfl) dP_read_question.g dP_read_question.F.kp dP_read_question.b .nil pass0 (pa_cons (pv 5) pa_nil)) pa_nil)) (pe_callB (call_reprD hg2 hr.units) (by rfl) n_repr (by decide +kernel) (pa_cons (pe_call Gread_question (hr.mono (by omega)) (by rfl) dread_question.g dread_question.F.kp dread_question.b .nil pass0 (pa_cons (pv 5) pa_nil)) pa_nil)) (nomark _))
        (pss_one (ps_ret pe_bl))
        pss_nil)
      (pss_cons (ps_set (i := 7) sclaw.nd rfl (Or.inl rfl) (pe_call Gbent_question (hr.mono (by omega)) (by rfl) dbent_question.g dbent_question.F.kp dbent_question.b .nil pass0 (pa_cons (pv 1) (pa_cons (pv 4) pa_nil))))
      (pss_cons (ps_if (pt_cmpR op_ne (pe_call Gtold (hr.mono (by omega)) (by rfl) dtold.g dtold.F.kp dtold.b .nil pass0 (pa_cons (pv 7) pa_nil)) (pe_ifExp (pt_val (pe_call Gis_question (hr.mono (by omega)) (by rfl) dis_question.g dis_question.F.kp dis_question.b .nil pass0 (pa_cons (pv 7) pa_nil))) (pe_call Gquestion_text (hr.mono (by omega)) (by rfl) dquestion_text.g dquestion_text.F.kp dquestion_text.b .nil pass0 (pa_cons (pv 7) pa_nil)) pe_non) (nomark _))
        (pss_one (ps_ret pe_bl))
        pss_nil)
      (pss_cons (ps_set (i := 8) sclaw.nd rfl (Or.inl rfl) (pe_lst (pa_cons pe_non (pa_cons pe_int (pa_cons pe_bl (pa_cons (pe_tupF pa_nil) (pa_cons (pe_lst pa_nil) (pa_cons pe_dnewK (pa_cons (pv 4) (pa_cons (pe_lst (pa_cons (pv 5) pa_nil)) (pa_cons (pe_call Gdeep (hr.mono (by omega)) (by rfl) ddeep.g ddeep.F.kp ddeep.b .nil pass0 (pa_cons (pe_op op_add pe_int (pe_call Gdraw (hr.mono (by omega)) (by rfl) ddraw.g ddraw.F.kp ddraw.b .nil pass0 (pa_cons (pv 1) (pa_cons pe_int pa_nil)))) pa_nil)) pa_nil)))))))))))
      (pss_one (ps_if (pt_cmpR op_notN (pe_call GP_read_question (hr.mono (by omega)) (by rfl) dP_read_question.g dP_read_question.F.kp dP_read_question.b .nil pass0 (pa_cons (pe_call Gany (hr.mono (by omega)) (by rfl) dany.g dany.F.kp dany.b .nil pass0 (pa_cons (pv 1) (pa_cons (pv 8) pa_nil))) pa_nil)) pe_non (nomark _))
        (pss_one (ps_ret pe_bl))
        pss_nil)))))))))))
    (pss_one (ps_ret pe_bl))))), ?_⟩
  refine ⟨.ref a0, rfl, a0, ns0, rfl, ha, hl, fun H1 p c s1 np w1 => ?_⟩
  refine ⟨.ref p, rfl, .ref p, rfl, p, c, 60, rfl, w1, (by decide), (by decide), fun H2 r x2 w2 r0 r1 => ?_⟩
  obtain ⟨r, rfl⟩ := Int.eq_ofNat_of_zero_le r0
  refine ⟨_, _, rfl, rfl, p, c, 3 + r, rfl, w2, by omega, fun H3 l Pf x3 w3 nl la lc hl3 hP => ?_⟩
  have hnm : ∀ z ∈ poolL Pf (3 + r), Nm z ∧ z.length ≤ 4 := fun z hz => by
    refine ⟨poolL_nm hP (by omega) hz, ?_⟩
    obtain ⟨k, hk, rfl⟩ := List.mem_map.mp hz
    rw [← cs_len]
    exact (pnm_len hP).2
  have n0 : 0 < (poolL Pf (3 + r)).length := by unfold poolL; rw [List.length_map, List.length_range]; omega
  have n702 : (poolL Pf (3 + r)).length ≤ 702 := by unfold poolL; rw [List.length_map, List.length_range]; omega
  generalize poolL Pf (3 + r) = ns at hl3 hnm n0 n702
  refine ⟨6, rfl, by decide, by decide, ?_⟩
  refine for_range (lo := 0) (n := 6) (fun i σ H4 => ∃ y3 y4 y5 y6 y7 y8, σ = [some (.ref a0), some (.ref p), some (.ref l), y3, y4, y5, y6, y7, y8] ∧ Wl p c H4 ∧ H4 l = some (.lst (ns.map V.str))) ⟨none, none, none, none, none, none, rfl, w3, hl3⟩ ?_ ?_
  · rintro i σ H4 hi ⟨y3, y4, y5, y6, y7, y8, rfl, w4, hl4⟩
    refine ⟨.ref p, rfl, .ref l, rfl, p, c, l, ns, rfl, w4, la, hl4, n0, n702, hnm, fun H5 v d5 x5 w5 hd hq => ?_⟩
    have hl5 := x5 _ _ la hl4
    have hdt : DtAt K H5 v d5 := ⟨2, hd⟩
    refine ⟨v, rfl, v, d5, rfl, hdt, hq, fun H6 s6 => ?_⟩
    refine ⟨v, rfl, v, d5, rfl, hdt.same s6, hq, fun H7 s7 => ⟨.str (qtx d5), rfl, rfl, false, congrArg V.bl (neS _), iteF ?_⟩⟩
    have s57 := same_trans s6 s7
    obtain ⟨wd, ps, ed, hv⟩ := qn_view hq
    have hfit := qtx_fit hv
    rw [← ed] at hfit
    have hql : (qtx d5).length ≤ 400 := Nat.le_trans (join_len _) hfit
    have hrd : rdD (.str (qtx d5)) = d5 := by
      show rdQ (Txt.split (qtx d5) blk) = d5
      rw [ed, qtx_split hv, rd_qws hv]
    refine ⟨.str (qtx d5), rfl, .str (qtx d5), .str (qtx d5), rfl, ⟨0, .lstr (by omega)⟩, (fun z e => by cases e; omega), fun H8 v8 s8 h8 => ?_⟩
    rw [hrd] at h8
    have s58 := same_trans s57 s8
    obtain ⟨p1, p2, p3⟩ := rd_repr (.inr hq) h8
    obtain ⟨g1, g2, g3⟩ := rd_repr (.inr hq) (hdt.same s58)
    refine ⟨v8, pyX d5, rfl, p1, p2.sh, p2.nd, p2.dp, p3, p2.le, v, rfl, v, pyX d5, rfl, g1, g2.sh, g2.nd, g2.dp, g3, g2.le, rfl, false, congrArg V.bl (neS _), iteF ?_⟩
    have w8 := w5.same s58
    have hd8 := hd.same s58
    have hl8 := s58 _ _ hl5
    clear hdt h8 p1 p3 g1 g3
    -- the text bent
    refine ⟨.ref p, rfl, p, c, 2, rfl, w8, (by decide), (by decide), fun H9 m x9 w9 m0 m1 => ⟨_, _, rfl, rfl, 1 + m, rfl, by omega, by omega, ?_⟩⟩
    obtain ⟨m, rfl⟩ := Int.eq_ofNat_of_zero_le m0
    rw [show ((1 : Int) + (m : Int)).toNat = 1 + m by omega]
    have k89 := dk_exw (K := K) x9 w8 w9
    have hl9 := x9 _ _ la hl8
    have hd9 := hd8.keep k89
    refine for_range (lo := 0) (n := 1 + m) (fun i2 σ H10 => ∃ (z : Str) (y6 : Option V), σ = [some (.ref a0), some (.ref p), some (.ref l), some (.int (0 + (i : Int))), some v, some (.str z), y6, y7, y8] ∧ Exw p H9 H10 ∧ Wl p c H10 ∧ z.length + 16 ≤ 416 * 2 ^ i2) ⟨qtx d5, _, rfl, Exw.refl p H9, w9, by omega⟩ ?_ ?_
    · rintro j σ H10 hj ⟨z, y6', rfl, x10, w10, hz⟩
      have hj2 : 2 ^ j ≤ 2 := by
        have : j ≤ 1 := by omega
        match j, this with
        | 0, _ => decide
        | 1, _ => decide
      refine ⟨.ref p, rfl, .str z, rfl, p, c, z, rfl, w10, by omega, fun H11 z' x11 w11 hz' => ⟨z', _, rfl, x10.trans x11, w11, ?_⟩⟩
      rw [Nat.pow_succ]
      omega
    rintro σ H10 ⟨z, y6', rfl, x10, w10, hz⟩
    have hz4 : z.length ≤ 4000 := by
      have : 2 ^ (1 + m) ≤ 4 := by
        have : m ≤ 1 := by omega
        match m, this with
        | 0, _ => decide
        | 1, _ => decide
      omega
    have k910 := dk_exw (K := K) x10 w9 w10
    have hl10 := x10 _ _ la hl9
    have hd10 := hd9.keep k910
    clear hd9 hd8 hd
    refine ⟨.str z, rfl, .str z, .str z, rfl, ⟨0, .lstr (by omega)⟩, (fun y e => by cases e; exact hz4), fun H11 v11 s11 h11 => ?_⟩
    have h11 : DtAt K H11 v11 (rdQ (Txt.split z blk)) := h11
    obtain ⟨p1, p2', p3⟩ := rd_repr (rdQ_is _) h11
    refine ⟨v11, pyX (rdQ (Txt.split z blk)), rfl, p1, p2'.sh, p2'.nd, p2'.dp, p3, p2'.le, .str z, rfl, z, rfl, hz4, fun H12 v12 s12 h12 => ?_⟩
    obtain ⟨g1, g2', g3⟩ := rd_repr (rdQ_is _) h12
    refine ⟨v12, pyX (rdQ (Txt.split z blk)), rfl, g1, g2'.sh, g2'.nd, g2'.dp, g3, g2'.le, rfl, false, congrArg V.bl (neS _), iteF ?_⟩
    have s1012 := same_trans s11 s12
    have w12 := w10.same s1012
    have hd12 := hd10.same s1012
    have hl12 := s1012 _ _ hl10
    -- the question bent
    obtain ⟨b, xs, hvb, hPt, hxl, hPd⟩ : ∃ b xs, v = .ref b ∧ Ptp H12 b xs ∧ xs.length ≤ 10 ∧ Paired (DatAt K (2 ^ 90) 5000 1 H12) xs (.str wd :: ps) := by
      rcases hd12 with hd12 | ⟨b, xs, ds, e1, e2, h1, h2, h3⟩
      · rw [ed] at hd12
        exact hd12.elim
      · rw [ed] at e2
        cases e2
        have e := Paired.length h3
        have := qnv_len hv
        rw [List.length_cons] at e
        exact ⟨b, xs, e1, h1, by omega, h3⟩
    subst hvb
    refine ⟨.ref p, rfl, .ref b, rfl, p, c, b, xs, _, rfl, w12, hPt, hxl, hPd, fun H13 v13 d13 x13 w13 h13 => ?_⟩
    have hl13 := x13 _ _ la hl12
    have k1213 := dk_exw (K := K) x13 w12 w13
    have hd13 : DtAt K H13 (.ref b) d5 := ⟨2, hd10.same s1012 |>.keep k1213⟩
    refine ⟨v13, rfl, v13, d13, rfl, h13, fun H14 s14 => ?_⟩
    refine ⟨v13, rfl, v13, d13, rfl, h13.same s14, fun H15 s15 => ⟨qnD d13, rfl, ?_⟩⟩
    have s1315 := same_trans s14 s15
    cases e : qnD d13 with
    | true =>
      rw [show toldV d13 = .str (qtx d13) from if_pos e]
      refine iteT ⟨v13, rfl, v13, d13, rfl, h13.same s1315, e, fun H16 s16 => ⟨rfl, false, congrArg V.bl (neS _), iteF ?_⟩⟩
      have s1316 := same_trans s1315 s16
      -- the odd things
      have w16 := w13.same s1316
      have hl16 := s1316 _ _ hl13
      have hb16 := hd13.same s1316
      obtain ⟨nb, hb16⟩ := hb16
      refine ⟨(by show 0 ≤ sizeLine; decide), fun t0 o0 nt0 ht0 => ?_⟩
      have q1 : Same H16 (upd H16 t0 (.frz o0 (.tup []))) := same_upd nt0
      have k1 : Ptp (upd H16 t0 (.frz o0 (.tup []))) t0 [] := ⟨o0, upd_same, ht0⟩
      generalize upd H16 t0 (.frz o0 (.tup [])) = J1 at q1 k1 ⊢
      refine ⟨(by show 0 ≤ sizeLine; decide), fun l0 nl0 => ?_⟩
      have q2 : Same J1 (upd J1 l0 (.lst [])) := same_upd nl0
      have k2 : (upd J1 l0 (.lst [])) l0 = some (.lst []) := upd_same
      generalize upd J1 l0 (.lst []) = J2 at q2 k2 ⊢
      refine fun d0 nd0 => ?_
      have q3 : Same J2 (upd J2 d0 (.dK [])) := same_upd nd0
      have k3 : (upd J2 d0 (.dK [])) d0 = some (.dK []) := upd_same
      generalize upd J2 d0 (.dK []) = J3 at q3 k3 ⊢
      refine ⟨.ref b, rfl, .str z, rfl, (by show 1 ≤ sizeLine; decide), fun l1 nl1 => ?_⟩
      have q4 : Same J3 (upd J3 l1 (.lst [.str z])) := same_upd nl1
      have k4 : (upd J3 l1 (.lst [.str z])) l1 = some (.lst [.str z]) := upd_same
      generalize upd J3 l1 (.lst [.str z]) = J4 at q4 k4 ⊢
      have qa := same_trans q1 (same_trans q2 (same_trans q3 q4))
      have w17 := w16.same qa
      refine ⟨.ref p, rfl, p, c, 20, rfl, w17, (by decide), (by decide), fun J5 r x5' w18 r0 r1 => ?_⟩
      obtain ⟨r, rfl⟩ := Int.eq_ofNat_of_zero_le r0
      have kk := dk_exw (K := K) x5' w17 w18
      refine ⟨_, _, rfl, rfl, 1 + r, rfl, by omega, fun J6 v9 e9 q6 hv9 => ⟨(by show 9 ≤ sizeLine; decide), fun p3 np3 => ?_⟩⟩
      obtain ⟨n9, hv9⟩ := hv9
      have w19 := w18.same q6
      have p3a := (w19.ne2 np3).1
      have hl19 := q6 _ _ (x5' _ _ la (qa _ _ hl16))
      have q7 := same_upd (o := .lst [.non, .int 0, .bl true, .ref t0, .ref l0, .ref d0, .ref b, .ref l1, v9]) np3
      have h7 : (upd J6 p3 (.lst [.non, .int 0, .bl true, .ref t0, .ref l0, .ref d0, .ref b, .ref l1, v9])) p3 = some (.lst [.non, .int 0, .bl true, .ref t0, .ref l0, .ref d0, .ref b, .ref l1, v9]) := upd_same
      generalize upd J6 p3 (.lst [.non, .int 0, .bl true, .ref t0, .ref l0, .ref d0, .ref b, .ref l1, v9]) = J7 at q7 h7 ⊢
      have k67 : DKeep K J4 J7 := kk.trans (dk_same (same_trans q6 q7))
      have hN1 : 1 ≤ max 1 (max nb n9) := by omega
      have hN2 : nb ≤ max 1 (max nb n9) := by omega
      have hN3 : n9 ≤ max 1 (max nb n9) := by omega
      have odd : Paired (fun x d => DatAt K (2 ^ 90) 5000 (max 1 (max nb n9)) J7 x d ∧ isS d = false) [.non, .int 0, .bl true, .ref t0, .ref l0, .ref d0, .ref b, .ref l1, v9] [.non, .int 0, .bl true, .tup [], .odd, .odd, d5, .odd, .tup e9] :=
        .cons ⟨.lnon, rfl⟩ (.cons ⟨.lint (by decide), rfl⟩ (.cons ⟨.lbl, rfl⟩ (.cons ⟨(DatAt.ltup (n := 0) ((k1.same (same_trans q2 (same_trans q3 q4)))) (by show 0 ≤ 5000; decide) .nil |>.keep k67).up hN1, rfl⟩
        (.cons ⟨((DatAt.lodd (n := 0) (.inl ⟨_, sql (q4 _ _ (q3 _ _ k2))⟩)).keep k67).up (by omega), rfl⟩ (.cons ⟨((DatAt.lodd (n := 0) (.inr (.inl ⟨_, q4 _ _ k3⟩))).keep k67).up (by omega), rfl⟩
        (.cons ⟨((hb16.same qa).keep k67).up hN2, by rw [ed]; rfl⟩ (.cons ⟨((DatAt.lodd (n := 0) (.inl ⟨_, sql k4⟩)).keep k67).up (by omega), rfl⟩ (.cons ⟨(hv9.same q7).up hN3, rfl⟩ .nil))))))))
      have w20 := w19.same q7
      refine ⟨.ref p, rfl, .ref p3, rfl, p, c, p3, _, rfl, w20, p3a, h7, (by show 0 < 9; decide), (by show 9 ≤ 100000; decide), fun J8 u x8' w21 hu => ?_⟩
      obtain ⟨du, hdu, hds⟩ := pair_mem odd hu
      have hdu8 := hdu.keep (dk_exw (K := K) x8' w20 w21)
      refine ⟨u, du, rfl, ⟨_, hdu8⟩, (fun y e => by subst e; cases hds), fun J9 vr q9 hvr => ?_⟩
      have er : rdD du = .non := by
        cases du with
        | str y => cases hds
        | _ => rfl
      rw [er] at hvr
      have evr := hvr.non
      subst evr
      exact ⟨rfl, false, rfl, iteF ⟨_, _, _, _, _, _, rfl, w21.same q9, q9 _ _ (x8' _ _ la (q7 _ _ hl19))⟩⟩
    | false =>
      rw [show toldV d13 = .non from if_neg (by rw [e]; decide)]
      refine iteF ⟨rfl, false, rfl, iteF ?_⟩
      have s1316 := s1315
      generalize H15 = H16 at s1316
      -- the odd things
      have w16 := w13.same s1316
      have hl16 := s1316 _ _ hl13
      have hb16 := hd13.same s1316
      obtain ⟨nb, hb16⟩ := hb16
      refine ⟨(by show 0 ≤ sizeLine; decide), fun t0 o0 nt0 ht0 => ?_⟩
      have q1 : Same H16 (upd H16 t0 (.frz o0 (.tup []))) := same_upd nt0
      have k1 : Ptp (upd H16 t0 (.frz o0 (.tup []))) t0 [] := ⟨o0, upd_same, ht0⟩
      generalize upd H16 t0 (.frz o0 (.tup [])) = J1 at q1 k1 ⊢
      refine ⟨(by show 0 ≤ sizeLine; decide), fun l0 nl0 => ?_⟩
      have q2 : Same J1 (upd J1 l0 (.lst [])) := same_upd nl0
      have k2 : (upd J1 l0 (.lst [])) l0 = some (.lst []) := upd_same
      generalize upd J1 l0 (.lst []) = J2 at q2 k2 ⊢
      refine fun d0 nd0 => ?_
      have q3 : Same J2 (upd J2 d0 (.dK [])) := same_upd nd0
      have k3 : (upd J2 d0 (.dK [])) d0 = some (.dK []) := upd_same
      generalize upd J2 d0 (.dK []) = J3 at q3 k3 ⊢
      refine ⟨.ref b, rfl, .str z, rfl, (by show 1 ≤ sizeLine; decide), fun l1 nl1 => ?_⟩
      have q4 : Same J3 (upd J3 l1 (.lst [.str z])) := same_upd nl1
      have k4 : (upd J3 l1 (.lst [.str z])) l1 = some (.lst [.str z]) := upd_same
      generalize upd J3 l1 (.lst [.str z]) = J4 at q4 k4 ⊢
      have qa := same_trans q1 (same_trans q2 (same_trans q3 q4))
      have w17 := w16.same qa
      refine ⟨.ref p, rfl, p, c, 20, rfl, w17, (by decide), (by decide), fun J5 r x5' w18 r0 r1 => ?_⟩
      obtain ⟨r, rfl⟩ := Int.eq_ofNat_of_zero_le r0
      have kk := dk_exw (K := K) x5' w17 w18
      refine ⟨_, _, rfl, rfl, 1 + r, rfl, by omega, fun J6 v9 e9 q6 hv9 => ⟨(by show 9 ≤ sizeLine; decide), fun p3 np3 => ?_⟩⟩
      obtain ⟨n9, hv9⟩ := hv9
      have w19 := w18.same q6
      have p3a := (w19.ne2 np3).1
      have hl19 := q6 _ _ (x5' _ _ la (qa _ _ hl16))
      have q7 := same_upd (o := .lst [.non, .int 0, .bl true, .ref t0, .ref l0, .ref d0, .ref b, .ref l1, v9]) np3
      have h7 : (upd J6 p3 (.lst [.non, .int 0, .bl true, .ref t0, .ref l0, .ref d0, .ref b, .ref l1, v9])) p3 = some (.lst [.non, .int 0, .bl true, .ref t0, .ref l0, .ref d0, .ref b, .ref l1, v9]) := upd_same
      generalize upd J6 p3 (.lst [.non, .int 0, .bl true, .ref t0, .ref l0, .ref d0, .ref b, .ref l1, v9]) = J7 at q7 h7 ⊢
      have k67 : DKeep K J4 J7 := kk.trans (dk_same (same_trans q6 q7))
      have hN1 : 1 ≤ max 1 (max nb n9) := by omega
      have hN2 : nb ≤ max 1 (max nb n9) := by omega
      have hN3 : n9 ≤ max 1 (max nb n9) := by omega
      have odd : Paired (fun x d => DatAt K (2 ^ 90) 5000 (max 1 (max nb n9)) J7 x d ∧ isS d = false) [.non, .int 0, .bl true, .ref t0, .ref l0, .ref d0, .ref b, .ref l1, v9] [.non, .int 0, .bl true, .tup [], .odd, .odd, d5, .odd, .tup e9] :=
        .cons ⟨.lnon, rfl⟩ (.cons ⟨.lint (by decide), rfl⟩ (.cons ⟨.lbl, rfl⟩ (.cons ⟨(DatAt.ltup (n := 0) ((k1.same (same_trans q2 (same_trans q3 q4)))) (by show 0 ≤ 5000; decide) .nil |>.keep k67).up hN1, rfl⟩
        (.cons ⟨((DatAt.lodd (n := 0) (.inl ⟨_, sql (q4 _ _ (q3 _ _ k2))⟩)).keep k67).up (by omega), rfl⟩ (.cons ⟨((DatAt.lodd (n := 0) (.inr (.inl ⟨_, q4 _ _ k3⟩))).keep k67).up (by omega), rfl⟩
        (.cons ⟨((hb16.same qa).keep k67).up hN2, by rw [ed]; rfl⟩ (.cons ⟨((DatAt.lodd (n := 0) (.inl ⟨_, sql k4⟩)).keep k67).up (by omega), rfl⟩ (.cons ⟨(hv9.same q7).up hN3, rfl⟩ .nil))))))))
      have w20 := w19.same q7
      refine ⟨.ref p, rfl, .ref p3, rfl, p, c, p3, _, rfl, w20, p3a, h7, (by show 0 < 9; decide), (by show 9 ≤ 100000; decide), fun J8 u x8' w21 hu => ?_⟩
      obtain ⟨du, hdu, hds⟩ := pair_mem odd hu
      have hdu8 := hdu.keep (dk_exw (K := K) x8' w20 w21)
      refine ⟨u, du, rfl, ⟨_, hdu8⟩, (fun y e => by subst e; cases hds), fun J9 vr q9 hvr => ?_⟩
      have er : rdD du = .non := by
        cases du with
        | str y => cases hds
        | _ => rfl
      rw [er] at hvr
      have evr := hvr.non
      subst evr
      exact ⟨rfl, false, rfl, iteF ⟨_, _, _, _, _, _, rfl, w21.same q9, q9 _ _ (x8' _ _ la (q7 _ _ hl19))⟩⟩
  · rintro σ H4 ⟨y3, y4, y5, y6, y7, y8, rfl, w4, hl4⟩
    exact q H4
end
end Kb

namespace Kb
open PySem PySem.Spec PyProof.Rows L2
/-- a def as the top has left it -/
def dn_of {K : PySem.W.Frag} {h : Heap} {mg : Str → Option Value} {nm : Str} {st : Stmt} {ps : List Str} {f : Addr} {oc : Value} {od an : Option Addr} {osl : Array (Option Value)} {kV doc pm cdv ct : Value} (X : K.In h) (G : h.Ns mainGlobals mg)
    (fa : PySem.W.nsIn K mainGlobals nm = some (some (.ref f))) (fl : K.lookup f = some ⟨oc, od, .func (PySem.W.fnOf nm nm (defArgs st) (defBody st) (defScope st) .none kV doc pm an cdv ct), osl⟩) (fc : PySem.W.codeIn K cdv nm = true) (fk : PySem.W.keepIn K (.ref f) = true)
    (fb : ∀ (kV doc pm : Value) (an : Option Addr) (cdv ct : Value) (us : List Value), us.length = ps.length → bindArgs (PySem.W.fnOf nm nm (defArgs st) (defBody st) (defScope st) .none kV doc pm an cdv ct) ⟨us, []⟩ = pure (ps.zip us)) : Dn K mg nm st ps :=
  ⟨f, _, fun_mk fl fc fk, PySem.W.mg_of X G fa, (fun_mk fl fc fk).binds fb⟩
def cst_of {K : PySem.W.Frag} {h : Heap} {mg : Str → Option Value} {nm : Str} {i : Int} {t : Tok} (X : K.In h) (G : h.Ns mainGlobals mg) (fa : PySem.W.nsIn K mainGlobals nm = some (some (.int i t))) : Cst mg nm (.int i) := ⟨_, PySem.W.mg_of X G fa, ⟨_, rfl⟩⟩
/-- the class of errors as the top has left it -/
def erk_of {K : PySem.W.Frag} {h : Heap} {mg : Str → Option Value} {CN KE : Addr} (X : K.In h) (G : h.Ns mainGlobals mg)
    (N1 : PySem.W.nsIn K mainGlobals "NoQuestion" = some (some (.ref CN))) (N2 : PySem.W.excIn K CN [.type "ValueError", .type "Exception", .type "BaseException", .type "object"] "ValueError.__new__" = true) (N3 : PySem.W.keepIn K (.ref CN) = true) (N4 : PySem.W.subIn K (.ref CN) (.type "BaseException") = some true) (N5 : PySem.W.typeIn K (.ref CN) = some (.type "type")) (Ni1 : PySem.W.findIn K (.ref CN) "__getattribute__" = some (some (.builtin "BaseException.__getattribute__"))) (Ni2 : PySem.W.findIn K (.ref CN) "__getattr__" = some none) (Ni3 : PySem.W.hasDictIn K CN = true) (Ni4 : PySem.W.findIn K (.ref CN) "__class__" = some (some (.builtin "object.__class__"))) (Ni5 : PySem.W.specialIn K (.builtin "object.__class__") "__get__" = some (some (.builtin "getset_descriptor.__get__"))) (Ni6 : PySem.W.takesIn K (.builtin "object.__class__") = some true) (Ni7 : PySem.W.mroIn K CN (.type "object") = some true) (gk : PySem.W.nsIn K mainGlobals "KnownError" = some (some (.ref KE))) (nV : mg "ValueError" = none) (xNN : PySem.W.exmOne K (.ref CN) (.ref CN) = some true) (kK : PySem.W.kitOne K (.ref CN) (.ref KE) = some true) (kV : PySem.W.kitOne K (.ref CN) (.type "ValueError") = some true) : ErK K mg :=
  ⟨⟨CN, PySem.W.mg_of X G N1, N2, N3, N4, N5, ⟨Ni1, Ni2, N4, Ni3, Ni4, Ni5, Ni6, Ni7⟩⟩, KE, PySem.W.mg_of X G gk, nV, xNN, kK, kV⟩
theorem law_end {l : PySem.W.OpenLaw} {w : World} {K : PySem.W.Frag} {h : Heap} {mg : Str → Option Value} {fa f : Addr} (X : K.In h) (G : h.Ns mainGlobals mg) (hfa : mg "law" = some (.ref fa))
    {od an : Option Addr} {osl : Array (Option Value)} {oc kV doc pm cdv ct : Value}
    (a0 : PySem.W.nsIn K mainGlobals "law" = some (some (.ref f))) (l0 : K.lookup f = some ⟨oc, od, .func (PySem.W.fnOf "law" "law" (defArgs slaw) (defBody slaw) (defScope slaw) .none kV doc pm an cdv ct), osl⟩) (c0 : PySem.W.codeIn K cdv "law" = true) (k0 : PySem.W.keepIn K (.ref f) = true)
    (T : Blt mg) (EX : ErK K mg) (n_repr : mg "repr" = none) (n_zip : mg "zip" = none) (cL : Cst mg "LONGEST_NAME" (.int 8)) (cA : Cst mg "MOST_ASKED" (.int 40)) (cD : Cst mg "MOST_DIGITS" (.int 12))  (dP_is_int : DnIsInt K mg) (dP_is_name : DnIsName K mg) (dP_is_question : DnIsQuestion K mg) (dP_is_lot : DnIsLot K mg) (dP_question_text : DnQuestionText K mg) (dP_read_question : DnReadQuestion K mg) (dP_question : DnWordsQuestion K mg) (dP_number : DnNumber K mg) (dhand : Dnhand K mg) (ddraw : Dndraw K mg) (dany : Dnany K mg) (dis_int : Dnis_int K mg) (ddeep : Dndeep K mg) (dpool : Dnpool K mg) (dquestion : Dnquestion K mg) (dquestion_text : Dnquestion_text K mg) (dis_name : Dnis_name K mg) (dnumber_of : Dnnumber_of K mg) (dread_question : Dnread_question K mg) (dbent_text : Dnbent_text K mg) (dis_question : Dnis_question K mg) (dbent_question : Dnbent_question K mg) (dtold : Dntold K mg) :
    ∃ fd : FuncData, (∀ (s : Shared) (v : Value), BindsTo s fd ⟨[v], []⟩ [("_law_script", v)]) ∧ TopOk l.prog w K mg fa fd "_law_script" (spLaw K) := by
  have e := hfa.symm.trans (PySem.W.mg_of X G a0)
  cases e
  exact ⟨PySem.W.fnOf "law" "law" (defArgs slaw) (defBody slaw) (defScope slaw) .none kV doc pm an cdv ct, fun s v => .of_eq rfl, ok_law T n_repr n_zip EX cL cA cD dP_is_int dP_is_name dP_is_lot dP_is_question dP_question_text dP_number dP_question dP_read_question dhand ddraw dany dis_int ddeep dpool dquestion dquestion_text dis_name dnumber_of dread_question dbent_text dis_question dbent_question dtold
    ⟨_, _, fun_mk l0 c0 k0, PySem.W.mg_of X G a0, (fun_mk l0 c0 k0).binds fun _ _ _ _ _ _ us hl => match us, hl with | [_], _ => rfl⟩⟩
end Kb
open PySem PySem.W PyProof.Rows
theorem PySem.Challenge.cw_knownends_k61_whole_questions_as_texts_holds : PySem.Challenge.rw_knownends_k61_whole_questions_as_texts.Holds := by
  w_on; o_law; k_head; (case hw => w_witness2)
  k_fill
  refine L2.walk_top (l := PySem.Challenge.rw_knownends_k61_whole_questions_as_texts) (n := 63) (x := "_law_script") (sp := fun w => Kb.spLaw _) rfl (by decide) rfl (fun w h Y => PySem.W.kIn_of Y) ?F (fun _ _ a ns hl hS => ⟨a, ns, rfl, hS, hl, fun _ => rfl⟩)
  case F =>
    intro w mg fa h KX G hmg
    refine' Kb.law_end KX G hmg ?a0 ?l0 ?c0 ?k0 ?T ?EX ?n_repr ?n_zip ?cL ?cA ?cD ?dP_is_int ?dP_is_name ?dP_is_question ?dP_is_lot ?dP_question_text ?dP_read_question ?dP_question ?dP_number ?dhand ?ddraw ?dany ?dis_int ?ddeep ?dpool ?dquestion ?dquestion_text ?dis_name ?dnumber_of ?dread_question ?dbent_text ?dis_question ?dbent_question ?dtold
    (case a0 => k_is); (case l0 => k_is); (case c0 => k_is); (case k0 => k_is)
    (case T => exact ⟨PySem.W.mg_none_of KX G (by k_is), PySem.W.mg_none_of KX G (by k_is), PySem.W.mg_none_of KX G (by k_is), PySem.W.mg_none_of KX G (by k_is), PySem.W.mg_none_of KX G (by k_is), PySem.W.mg_none_of KX G (by k_is), PySem.W.mg_none_of KX G (by k_is), PySem.W.mg_none_of KX G (by k_is), PySem.W.mg_none_of KX G (by k_is), PySem.W.mg_none_of KX G (by k_is), PySem.W.mg_none_of KX G (by k_is), PySem.W.mg_none_of KX G (by k_is), PySem.W.mg_none_of KX G (by k_is), PySem.W.mg_none_of KX G (by k_is), PySem.W.mg_none_of KX G (by k_is), PySem.W.mg_none_of KX G (by k_is)⟩)
    (case EX =>
      refine' Kb.erk_of KX G ?N1 ?N2 ?N3 ?N4 ?N5 ?Ni1 ?Ni2 ?Ni3 ?Ni4 ?Ni5 ?Ni6 ?Ni7 ?gk ?nV ?xNN ?kK ?kV
      (case N1 => k_is); (case N2 => first | k_exc | kernel_rfl); (case N3 => k_is); (case N4 => k_is); (case N5 => k_is); (case Ni1 => k_is); (case Ni2 => k_is); (case Ni3 => k_is); (case Ni4 => k_is); (case Ni5 => k_is); (case Ni6 => k_is); (case Ni7 => k_is); (case gk => k_is); (case nV => exact PySem.W.mg_none_of KX G (by k_is)); (case xNN => first | rfl | k_is); (case kK => first | rfl | k_is); (case kV => first | rfl | k_is))
    (case n_repr => exact PySem.W.mg_none_of KX G (by k_is))
    (case n_zip => exact PySem.W.mg_none_of KX G (by k_is))
    (case cL => refine' Kb.cst_of KX G ?a_cL; (case a_cL => k_is))
    (case cA => refine' Kb.cst_of KX G ?a_cA; (case a_cA => k_is))
    (case cD => refine' Kb.cst_of KX G ?a_cD; (case a_cD => k_is))
    (case dP_is_int => refine' Kb.dn_of KX G ?a_dP_is_int ?l_dP_is_int ?c_dP_is_int ?k_dP_is_int ?b_dP_is_int; (case a_dP_is_int => k_is); (case l_dP_is_int => k_is); (case c_dP_is_int => k_is); (case k_dP_is_int => k_is); (case b_dP_is_int => exact fun _ _ _ _ _ _ us hl => match us, hl with | [_], _ => rfl))
    (case dP_is_name => refine' Kb.dn_of KX G ?a_dP_is_name ?l_dP_is_name ?c_dP_is_name ?k_dP_is_name ?b_dP_is_name; (case a_dP_is_name => k_is); (case l_dP_is_name => k_is); (case c_dP_is_name => k_is); (case k_dP_is_name => k_is); (case b_dP_is_name => exact fun _ _ _ _ _ _ us hl => match us, hl with | [_], _ => rfl))
    (case dP_is_question => refine' Kb.dn_of KX G ?a_dP_is_question ?l_dP_is_question ?c_dP_is_question ?k_dP_is_question ?b_dP_is_question; (case a_dP_is_question => k_is); (case l_dP_is_question => k_is); (case c_dP_is_question => k_is); (case k_dP_is_question => k_is); (case b_dP_is_question => exact fun _ _ _ _ _ _ us hl => match us, hl with | [_], _ => rfl))
    (case dP_is_lot => refine' Kb.dn_of KX G ?a_dP_is_lot ?l_dP_is_lot ?c_dP_is_lot ?k_dP_is_lot ?b_dP_is_lot; (case a_dP_is_lot => k_is); (case l_dP_is_lot => k_is); (case c_dP_is_lot => k_is); (case k_dP_is_lot => k_is); (case b_dP_is_lot => exact fun _ _ _ _ _ _ us hl => match us, hl with | [_], _ => rfl))
    (case dP_question_text => refine' Kb.dn_of KX G ?a_dP_question_text ?l_dP_question_text ?c_dP_question_text ?k_dP_question_text ?b_dP_question_text; (case a_dP_question_text => k_is); (case l_dP_question_text => k_is); (case c_dP_question_text => k_is); (case k_dP_question_text => k_is); (case b_dP_question_text => exact fun _ _ _ _ _ _ us hl => match us, hl with | [_], _ => rfl))
    (case dP_read_question => refine' Kb.dn_of KX G ?a_dP_read_question ?l_dP_read_question ?c_dP_read_question ?k_dP_read_question ?b_dP_read_question; (case a_dP_read_question => k_is); (case l_dP_read_question => k_is); (case c_dP_read_question => k_is); (case k_dP_read_question => k_is); (case b_dP_read_question => exact fun _ _ _ _ _ _ us hl => match us, hl with | [_], _ => rfl))
    (case dP_question => refine' Kb.dn_of KX G ?a_dP_question ?l_dP_question ?c_dP_question ?k_dP_question ?b_dP_question; (case a_dP_question => k_is); (case l_dP_question => k_is); (case c_dP_question => k_is); (case k_dP_question => k_is); (case b_dP_question => exact fun _ _ _ _ _ _ us hl => match us, hl with | [_], _ => rfl))
    (case dP_number => refine' Kb.dn_of KX G ?a_dP_number ?l_dP_number ?c_dP_number ?k_dP_number ?b_dP_number; (case a_dP_number => k_is); (case l_dP_number => k_is); (case c_dP_number => k_is); (case k_dP_number => k_is); (case b_dP_number => exact fun _ _ _ _ _ _ us hl => match us, hl with | [_], _ => rfl))
    (case dhand => refine' Kb.dn_of KX G ?a_dhand ?l_dhand ?c_dhand ?k_dhand ?b_dhand; (case a_dhand => k_is); (case l_dhand => k_is); (case c_dhand => k_is); (case k_dhand => k_is); (case b_dhand => exact fun _ _ _ _ _ _ us hl => match us, hl with | [_], _ => rfl))
    (case ddraw => refine' Kb.dn_of KX G ?a_ddraw ?l_ddraw ?c_ddraw ?k_ddraw ?b_ddraw; (case a_ddraw => k_is); (case l_ddraw => k_is); (case c_ddraw => k_is); (case k_ddraw => k_is); (case b_ddraw => exact fun _ _ _ _ _ _ us hl => match us, hl with | [_, _], _ => rfl))
    (case dany => refine' Kb.dn_of KX G ?a_dany ?l_dany ?c_dany ?k_dany ?b_dany; (case a_dany => k_is); (case l_dany => k_is); (case c_dany => k_is); (case k_dany => k_is); (case b_dany => exact fun _ _ _ _ _ _ us hl => match us, hl with | [_, _], _ => rfl))
    (case dis_int => refine' Kb.dn_of KX G ?a_dis_int ?l_dis_int ?c_dis_int ?k_dis_int ?b_dis_int; (case a_dis_int => k_is); (case l_dis_int => k_is); (case c_dis_int => k_is); (case k_dis_int => k_is); (case b_dis_int => exact fun _ _ _ _ _ _ us hl => match us, hl with | [_, _, _], _ => rfl))
    (case ddeep => refine' Kb.dn_of KX G ?a_ddeep ?l_ddeep ?c_ddeep ?k_ddeep ?b_ddeep; (case a_ddeep => k_is); (case l_ddeep => k_is); (case c_ddeep => k_is); (case k_ddeep => k_is); (case b_ddeep => exact fun _ _ _ _ _ _ us hl => match us, hl with | [_], _ => rfl))
    (case dpool => refine' Kb.dn_of KX G ?a_dpool ?l_dpool ?c_dpool ?k_dpool ?b_dpool; (case a_dpool => k_is); (case l_dpool => k_is); (case c_dpool => k_is); (case k_dpool => k_is); (case b_dpool => exact fun _ _ _ _ _ _ us hl => match us, hl with | [_, _], _ => rfl))
    (case dquestion => refine' Kb.dn_of KX G ?a_dquestion ?l_dquestion ?c_dquestion ?k_dquestion ?b_dquestion; (case a_dquestion => k_is); (case l_dquestion => k_is); (case c_dquestion => k_is); (case k_dquestion => k_is); (case b_dquestion => exact fun _ _ _ _ _ _ us hl => match us, hl with | [_, _], _ => rfl))
    (case dquestion_text => refine' Kb.dn_of KX G ?a_dquestion_text ?l_dquestion_text ?c_dquestion_text ?k_dquestion_text ?b_dquestion_text; (case a_dquestion_text => k_is); (case l_dquestion_text => k_is); (case c_dquestion_text => k_is); (case k_dquestion_text => k_is); (case b_dquestion_text => exact fun _ _ _ _ _ _ us hl => match us, hl with | [_], _ => rfl))
    (case dis_name => refine' Kb.dn_of KX G ?a_dis_name ?l_dis_name ?c_dis_name ?k_dis_name ?b_dis_name; (case a_dis_name => k_is); (case l_dis_name => k_is); (case c_dis_name => k_is); (case k_dis_name => k_is); (case b_dis_name => exact fun _ _ _ _ _ _ us hl => match us, hl with | [_], _ => rfl))
    (case dnumber_of => refine' Kb.dn_of KX G ?a_dnumber_of ?l_dnumber_of ?c_dnumber_of ?k_dnumber_of ?b_dnumber_of; (case a_dnumber_of => k_is); (case l_dnumber_of => k_is); (case c_dnumber_of => k_is); (case k_dnumber_of => k_is); (case b_dnumber_of => exact fun _ _ _ _ _ _ us hl => match us, hl with | [_], _ => rfl))
    (case dread_question => refine' Kb.dn_of KX G ?a_dread_question ?l_dread_question ?c_dread_question ?k_dread_question ?b_dread_question; (case a_dread_question => k_is); (case l_dread_question => k_is); (case c_dread_question => k_is); (case k_dread_question => k_is); (case b_dread_question => exact fun _ _ _ _ _ _ us hl => match us, hl with | [_], _ => rfl))
    (case dbent_text => refine' Kb.dn_of KX G ?a_dbent_text ?l_dbent_text ?c_dbent_text ?k_dbent_text ?b_dbent_text; (case a_dbent_text => k_is); (case l_dbent_text => k_is); (case c_dbent_text => k_is); (case k_dbent_text => k_is); (case b_dbent_text => exact fun _ _ _ _ _ _ us hl => match us, hl with | [_, _], _ => rfl))
    (case dis_question => refine' Kb.dn_of KX G ?a_dis_question ?l_dis_question ?c_dis_question ?k_dis_question ?b_dis_question; (case a_dis_question => k_is); (case l_dis_question => k_is); (case c_dis_question => k_is); (case k_dis_question => k_is); (case b_dis_question => exact fun _ _ _ _ _ _ us hl => match us, hl with | [_], _ => rfl))
    (case dbent_question => refine' Kb.dn_of KX G ?a_dbent_question ?l_dbent_question ?c_dbent_question ?k_dbent_question ?b_dbent_question; (case a_dbent_question => k_is); (case l_dbent_question => k_is); (case c_dbent_question => k_is); (case k_dbent_question => k_is); (case b_dbent_question => exact fun _ _ _ _ _ _ us hl => match us, hl with | [_, _], _ => rfl))
    (case dtold => refine' Kb.dn_of KX G ?a_dtold ?l_dtold ?c_dtold ?k_dtold ?b_dtold; (case a_dtold => k_is); (case l_dtold => k_is); (case c_dtold => k_is); (case k_dtold => k_is); (case b_dtold => exact fun _ _ _ _ _ _ us hl => match us, hl with | [_], _ => rfl))

