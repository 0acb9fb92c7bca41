import PyProof.Rows.All
import PySem.Challenge.RW_knownends_k29_whole_checks_and_sealed_te
import HandS.ForMost
import HandS.ForExc
import HandS.IsInst
import HandS.TryMany
import HandS.Codes
import HandS.Walk
import HandS.ReplaceLit
import HandS.ReplaceList
import HandS.StrMore
import HandS.TupAny
import HandS.ExcInit
import HandS.ExcField
import HandS.Style
import HandS.Replace
import KE.GoesEnumKw
import KE.GoesNew
import PyProof.Rows.CallKwBuiltin
import KE.IntTextText
import HandS.ReplaceDef
import HandS.ExcIs
import PyProof.Rows.StrMul
set_option Elab.async false
set_option linter.all false
set_option maxRecDepth 100000
set_option maxHeartbeats 0
namespace Kb
open PySem PySem.Spec PyProof.Rows L2
/-! the text -/
def topS (i : Nat) : Stmt := PySem.Challenge.pw_knownends_k29_whole_checks_and_sealed_te.main.body.getD i (.Pass ⟨0, 0, 0, 0⟩)
abbrev shand : Stmt := topS 27
abbrev Nhand : List Str := ["_law_script", "_law_cells", "_law_cell"]
theorem schand : FnScope ["_law_script", "_law_cells", "_law_cell"] ["_law_script"] (defScope shand) := ⟨rfl, rfl, rfl, by decide +kernel, rfl, by decide +kernel, by decide +kernel⟩
abbrev sdraw : Stmt := topS 28
abbrev Ndraw : List Str := ["_law_hand_here", "_law_many", "_law_cell", "_law_digit", "_law_number"]
theorem scdraw : FnScope ["_law_hand_here", "_law_many", "_law_cell", "_law_digit", "_law_number"] ["_law_hand_here", "_law_many"] (defScope sdraw) := ⟨rfl, rfl, rfl, by decide +kernel, rfl, by decide +kernel, by decide +kernel⟩
/-! facts -/
structure Dn (K : PySem.W.Frag) (mg : Str → Option Value) (nm : Str) (st : Stmt) (ps : List Str) where
  f : Addr
  fd : FuncData
  F : Fun K nm nm st f fd
  g : mg nm = some (.ref f)
  b : Binds K fd ps []
structure Blt (mg : Str → Option Value) : Prop where
  n_len : mg "len" = none
  n_int : mg "int" = none
  n_abs : mg "abs" = none
  n_range : mg "range" = none
  n_isinstance : mg "isinstance" = none
  n_str : mg "str" = none
  n_all : mg "all" = none
  n_tuple : mg "tuple" = none
  n_bool : mg "bool" = none
  n_ord : mg "ord" = none
  n_enumerate : mg "enumerate" = none
/-! heaps -/
theorem same_upd {H : Hp} {p : Addr} {o : HO} (h : H p = none) : Same H (upd H p o) := fun b x e => by
  rw [upd_ne (ne_of_none e h)]
  exact e
/-- all but a stays -/
def Ext (a : Addr) (H H' : Hp) : Prop := ∀ b o, b ≠ a → H b = some o → H' b = some o
theorem Ext.refl (a : Addr) (H : Hp) : Ext a H H := fun _ _ _ h => h
theorem Ext.trans {a : Addr} {H H1 H2 : Hp} (x : Ext a H H1) (y : Ext a H1 H2) : Ext a H H2 := fun b o n h => y b o n (x b o n h)
theorem Ext.upd {a : Addr} {H H1 : Hp} {o : HO} (x : Ext a H H1) : Ext a H (L2.upd H1 a o) := fun b u n h => by
  rw [upd_ne n]
  exact x b u n h
theorem Ext.new {a p : Addr} {H H1 : Hp} {o : HO} (x : Ext a H H1) (hp : H1 p = none) : Ext a H (L2.upd H1 p o) := fun b u n h => same_upd hp b u (x b u n h)
theorem _root_.L2.Same.ext {a : Addr} {H H' : Hp} (s : Same H H') : Ext a H H' := fun b o _ h => s b o h
/-- the hand that is drawn from -/
def Hand (c : Addr) (H : Hp) (a : Addr) : Prop := ∃ (cells : List Int) (i : Nat) (big acc cnt : Int), H a = some (.lst [.ref c, .int i, .int big, .int acc, .int cnt]) ∧ c ≠ a ∧ H c = some (.lst (cells.map V.int)) ∧
  cells.length ≤ 63 ∧ (∀ x ∈ cells, 0 ≤ x) ∧ 0 ≤ big ∧ 0 ≤ acc ∧ 0 ≤ cnt
theorem Hand.keep {H H' : Hp} {a c : Addr} (h : Hand c H a) (s : Same H H') : Hand c H' a := by
  obtain ⟨cells, i, big, acc, cnt, e1, n, e2, r⟩ := h
  exact ⟨cells, i, big, acc, cnt, s _ _ e1, n, s _ _ e2, r⟩
theorem Hand.new {H : Hp} {a c p : Addr} {o : HO} (h : Hand c H a) (hp : H p = none) : Hand c (upd H p o) a := h.keep (same_upd hp)
theorem Hand.at {H : Hp} {a c : Addr} (h : Hand c H a) : ∃ o, H a = some o := by
  obtain ⟨cells, i, big, acc, cnt, e1, _⟩ := h
  exact ⟨_, e1⟩
/-- something else that was new is stored -/
theorem Hand.put {H1 H : Hp} {a c D : Addr} {o : HO} (h : Hand c H a) (h1 : Hand c H1 a) (hD : H1 D = none) : Hand c (upd H D o) a := by
  obtain ⟨cells1, i1, big1, acc1, cnt1, e11, n1, e12, _⟩ := h1
  obtain ⟨cells, i, big, acc, cnt, e1, n, e2, r⟩ := h
  exact ⟨cells, i, big, acc, cnt, by rw [upd_ne (ne_of_none e11 hD)]; exact e1, n, by rw [upd_ne (ne_of_none e12 hD)]; exact e2, r⟩
theorem Ext.put {a D : Addr} {H1 H : Hp} {o : HO} (x : Ext a H1 H) (hD : H1 D = none) : Ext a H1 (L2.upd H D o) := fun b u n h => by
  rw [upd_ne (ne_of_none h hD)]
  exact x b u n h
theorem Hand.ne {H : Hp} {a c p : Addr} (h : Hand c H a) (hp : H p = none) : p ≠ a := by
  obtain ⟨o, e⟩ := h.at
  exact (ne_of_none e hp).symm
/-- xs[k], k written -/
theorem rd_ix {K : PySem.W.Frag} {σ : L2.St} {H : Hp} {Q : VK} {a : Addr} {xs : List V} {v : V} {n : Nat} (k : Nat) (h0 : σ[n]? = some (some (.ref a))) (hS : SqL K H a xs) (hv : xs[k]? = some v) (q : Q v H) :
    tOp (rIxL K) (tVar n) (tC (.int (k : Int))) σ H Q := ⟨.ref a, h0, a, xs, k, v, rfl, rfl, hS, atI_nat hv, q⟩
/-- %, the rest as a letter -/
def rModB : R2 := fun x y H Q => ∃ i j, x = .int i ∧ y = .int j ∧ 0 < j ∧ ∀ m : Int, 0 ≤ m → m < j → m = i % j → Q (.int m) H
theorem op_modB {X : Cx} : OpR X (binaryOp .Mod) rModB := fun pins s σ H x y v u Q I rx ry h => by
  obtain ⟨i, j, e1, e2, hj, q⟩ := h
  exact op_mod pins s σ H x y v u Q I rx ry ⟨i, j, e1, e2, hj, q _ (Int.emod_nonneg _ (by omega)) (Int.emod_lt_of_pos _ hj) rfl⟩
theorem sql {K : PySem.W.Frag} {H : Hp} {a : Addr} {xs : List V} (h : H a = some (.lst xs)) : SqL K H a xs := .inl (.inl h)
theorem cut63 {xs : List V} (h : xs.length ≤ 63) : cutV xs none (some 63) = xs := by
  unfold cutV
  rw [show HT.sIx xs.length xs.length (some 63) = min 63 xs.length from HT.sIx_nat xs.length xs.length 63, HT.sIx_none, List.drop_zero, Nat.sub_zero]
  exact List.take_of_length_le (by omega)
section
variable {P : Program} {w : World} {K : PySem.W.Frag} {mg : Str → Option Value} {base : Heap}
/-! _law_hand -/
def spHand (K : PySem.W.Frag) : Sp := fun vs H Q _ => ∃ (a : Addr) (ns : List Int), vs = [.ref a] ∧ SqL K H a (ns.map V.int) ∧ ns.length ≤ 63 ∧
  ∀ H' p, ∀ c, Same H H' → H p = none → Hand c H' p → Q (.ref p) H'
theorem ok_hand (T : Blt mg) (d : Dn K mg "_law_hand" shand ["_law_script"]) : FnOk P w K mg base CX0 1 d.f d.fd ["_law_script"] (spHand K) := by
  refine d.F.ok schand (fun vs H Q E h => ?_) (fun cdv A outer s H vs Q E hr h => ?_)
  · obtain ⟨a, ns, rfl, _⟩ := h
    rfl
  · obtain ⟨a, ns, rfl, hS, hlen, q⟩ := h
    refine ⟨_, (pss_cons (ps_setLc (i := 1) (own := [("_law_cell", 2)]) (g := gName 2) (tt := tYes) rfl schand.nd rfl rfl (sw_true rfl rfl rfl (by decide +kernel)) (pi_list (pe_slice sl_list (pv 0) po_none (po_some pe_int))) (blkOk_by (N := Nhand) (sc := defScope shand) (by decide +kernel)) (fun _ _ _ _ _ => pg_name (i := 2) schand.nd rfl (Or.inl rfl)) (fun _ _ _ _ _ => pts_nil) (fun _ _ _ _ _ => (pe_callB call_abs (by rfl) T.n_abs (by decide +kernel) (pa_cons (pe_callTy call_int1 (by rfl) T.n_int (by decide +kernel) (pa_cons (pv 2) pa_nil)) pa_nil))))
      (pss_one (ps_ret (pe_lst (pa_cons (pv 1) (pa_cons pe_int (pa_cons pe_int (pa_cons (pe_op op_add pe_int (pe_callB call_len_seq (by rfl) T.n_len (by decide +kernel) (pa_cons (pv 1) pa_nil))) (pa_cons pe_int pa_nil))))))))), ?_⟩
    refine ⟨.ref a, rfl, 63, rfl, a, _, rfl, hS, fun c nc => ?_⟩
    rw [cut63 (by rw [List.length_map]; exact hlen)]
    refine ⟨c, rfl, ⟨_, sql upd_same⟩, fun D nD => lc_list (xs := ns.map V.int)
      (fun i H3 => (∀ b o, b ≠ D → (upd H c (.lst (ns.map V.int))) b = some o → H3 b = some o) ∧ H3 D = some (.lst ((ns.take i).map fun z => V.int (if z < 0 then -z else z)))) ⟨fun b o n e => ?_, upd_same⟩ (fun i H3 _ h3 => sql (h3.1 _ _ (ne_of_none upd_same nD) upd_same)) (fun i x H3 hx h3 => ?_) (fun H3 h3 => ?_)⟩
    · rw [upd_ne n]
      exact e
    · obtain ⟨z, hz, rfl⟩ : ∃ z, ns[i]? = some z ∧ x = .int z := by
        rw [List.getElem?_map] at hx
        cases e : ns[i]? with
        | none => rw [e] at hx; cases hx
        | some z => rw [e] at hx; exact ⟨z, rfl, (Option.some.inj hx).symm⟩
      refine ⟨rfl, .int z, rfl, .inl ⟨z, rfl, z, rfl, _, h3.2, ?_, fun b o n e => ?_, ?_⟩⟩
      · rw [List.length_map, List.length_take]
        exact small1000 (by omega)
      · rw [upd_ne n]
        exact h3.1 b o n e
      · rw [upd_same, List.take_add_one, hz, List.map_append]
        rfl
    · have eD : H3 D = some (.lst ((ns.map fun z => if z < 0 then -z else z).map V.int)) := by
        rw [h3.2, List.length_map, List.take_length, List.map_map]
        rfl
      refine ⟨.ref D, rfl, .ref D, rfl, D, _, rfl, .inl (sql eD), _, _, rfl, rfl, (by decide : 5 ≤ sizeLine), fun p np => ?_⟩
      refine q _ _ D (fun b o e => ?_) ?_ (show Hand D _ _ from ⟨ns.map fun z => if z < 0 then -z else z, 0, 0, _, 0, upd_same, ne_of_none eD np, ?_, ?_, ?_, ?_, ?_, ?_⟩)
      · have e2 : (upd H c (.lst (ns.map V.int))) b = some o := same_upd nc b o e
        have e3 := h3.1 b o (ne_of_none e2 nD) e2
        rw [upd_ne (ne_of_none e3 np)]
        exact e3
      · cases e : H p with
        | none => rfl
        | some o =>
          have e2 : (upd H c (.lst (ns.map V.int))) p = some o := same_upd nc p o e
          have e3 := h3.1 p o (ne_of_none e2 nD) e2
          rw [np] at e3
          cases e3
      · rw [upd_ne (ne_of_none eD np)]
        exact eD
      · rw [List.length_map]
        exact hlen
      · intro x hx
        obtain ⟨z, _, rfl⟩ := List.mem_map.mp hx
        split <;> omega
      · omega
      · show (0 : Int) ≤ 1 + _
        omega
      · omega
end
end Kb

namespace Kb
open PySem PySem.Spec PyProof.Rows L2
section
variable {P : Program} {w : World} {K : PySem.W.Frag} {mg : Str → Option Value} {base : Heap}
/-! _law_draw -/
def spDraw : Sp := fun vs H Q _ => ∃ (a c : Addr) (n : Int), vs = [.ref a, .int n] ∧ Hand c H a ∧ 0 < n ∧ n < 1073741824 ∧
  ∀ H' (r : Int), Ext a H H' → Hand c H' a → 0 ≤ r → r < n → Q (.int r) H'
/-- hand[k] = v -/
theorem rd_set {H : Hp} {σ : L2.St} {a : Addr} {xs : List V} {v : V} {n : Nat} (k : Nat) {R : L2.St → Hp → Prop} (h0 : σ[n]? = some (some (.ref a))) (h : H a = some (.lst xs)) (hk : k < xs.length) (q : R σ (upd H a (.lst (xs.set k v)))) :
    gSub (tVar n) (tC (.int (k : Int))) rSetL v σ H R := ⟨.ref a, h0, a, xs, k, k, rfl, rfl, h, by unfold ixN; rw [if_pos (by omega), if_pos (by omega)]; simp, q⟩
theorem cmulR {i j : Int} (h1 : 0 ≤ j) (h2 : j < 10000000000) : CMul i j := .inr ⟨by omega, by omega⟩
theorem cmulL {i j : Int} (h1 : 0 ≤ i) (h2 : i < 10000000000) : CMul i j := .inl ⟨by omega, by omega⟩
theorem ok_draw (T : Blt mg) (d : Dn K mg "_law_draw" sdraw ["_law_hand_here", "_law_many"]) : FnOk P w K mg base CX0 1 d.f d.fd ["_law_hand_here", "_law_many"] spDraw := by
  refine d.F.ok scdraw (fun vs H Q E h => ?_) (fun cdv A outer s H vs Q E hr h => ?_)
  · obtain ⟨a, c, n, rfl, _⟩ := h
    rfl
  · obtain ⟨a, c, n, rfl, ⟨cells, i, big, acc, cnt, ea, nca, ec, hlen, hpos, hbig, hacc, hcnt⟩, hn0, hn1, q⟩ := h
    refine ⟨_, (C8.pss_cut (ps_if (PW.pt (pw_and (pt_cmpR op_eq (pe_ix ix_list (pv 0) pe_int (fun _ _ => rfl)) pe_int (nomark _)) (pw_and1 (pt_cmpR op_lt (pe_ix ix_list (pv 0) pe_int (fun _ _ => rfl)) (pe_callB call_len_seq (by rfl) T.n_len (by decide +kernel) (pa_cons (pe_ix ix_list (pv 0) pe_int (fun _ _ => rfl)) pa_nil)) (nomark _)))))
      (pss_cons (ps_set (i := 2) scdraw.nd rfl (Or.inl rfl) (pe_ix ix_list (pe_ix ix_list (pv 0) pe_int (fun _ _ => rfl)) (pe_ix ix_list (pv 0) pe_int (fun _ _ => rfl)) (fun _ _ => rfl)))
      (pss_cons (ps_asg (pe_op op_add (pe_ix ix_list (pv 0) pe_int (fun _ _ => rfl)) pe_int) (pg_sub (pv 0) pe_int set_list))
      (pss_cons (ps_asg (pe_op op_modB (pe_callTy call_int1 (by rfl) T.n_int (by decide +kernel) (pa_cons (pe_op op_add (pe_op op_add (pe_op op_mul (pe_ix ix_list (pv 0) pe_int (fun _ _ => rfl)) pe_int) (pv 2)) pe_int) pa_nil)) pe_int) (pg_sub (pv 0) pe_int set_list))
      (pss_one (ps_if (pt_cmpR op_ge (pv 2) (pe_op op_pow pe_int pe_int) (nomark _))
        (pss_one (ps_asg (pv 2) (pg_sub (pv 0) pe_int set_list)))
        pss_nil)))))
      pss_nil)
    (pss_cons (ps_if (pt_cmpR op_gt (pe_ix ix_list (pv 0) pe_int (fun _ _ => rfl)) pe_int (nomark _))
      (pss_cons (ps_set (i := 3) scdraw.nd rfl (Or.inl rfl) (pe_op op_modB (pe_callTy call_int1 (by rfl) T.n_int (by decide +kernel) (pa_cons (pe_ix ix_list (pv 0) pe_int (fun _ _ => rfl)) pa_nil)) (pv 1)))
      (pss_cons (ps_asg (pe_op op_fdiv (pe_ix ix_list (pv 0) pe_int (fun _ _ => rfl)) (pv 1)) (pg_sub (pv 0) pe_int set_list))
      (pss_one (ps_ret (pv 3)))))
      pss_nil)
    (pss_cons (ps_asg (pe_op op_add (pe_ix ix_list (pv 0) pe_int (fun _ _ => rfl)) pe_int) (pg_sub (pv 0) pe_int set_list))
    (pss_cons (ps_set (i := 4) scdraw.nd rfl (Or.inl rfl) (pe_op op_modB (pe_callTy call_int1 (by rfl) T.n_int (by decide +kernel) (pa_cons (pe_op op_mul (pe_callTy call_int1 (by rfl) T.n_int (by decide +kernel) (pa_cons (pe_op op_add (pe_ix ix_list (pv 0) pe_int (fun _ _ => rfl)) (pe_op op_mul pe_int (pe_ix ix_list (pv 0) pe_int (fun _ _ => rfl)))) pa_nil)) pe_int) pa_nil)) pe_int))
    (pss_cons (ps_set (i := 4) scdraw.nd rfl (Or.inl rfl) (pe_op op_modB (pe_callTy call_int1 (by rfl) T.n_int (by decide +kernel) (pa_cons (pe_op op_mul (pv 4) (pe_op op_add (pe_op op_fdiv (pv 4) pe_int) pe_int)) pa_nil)) pe_int))
    (pss_cons (ps_set (i := 4) scdraw.nd rfl (Or.inl rfl) (pe_op op_modB (pe_callTy call_int1 (by rfl) T.n_int (by decide +kernel) (pa_cons (pe_op op_mul (pv 4) (pe_op op_add (pe_op op_fdiv (pv 4) pe_int) pe_int)) pa_nil)) pe_int))
    (pss_one (ps_ret (pe_op op_modB (pe_callTy call_int1 (by rfl) T.n_int (by decide +kernel) (pa_cons (pe_op op_fdiv (pv 4) pe_int) pa_nil)) (pv 1)))))))))), ?_⟩
    refine ⟨fun σ H1 => ∃ (i : Nat) (big acc : Int) (y : Option V), σ = [some (.ref a), some (.int n), y, none, none] ∧ Ext a H H1 ∧ H1 a = some (.lst [.ref c, .int i, .int big, .int acc, .int cnt]) ∧ H1 c = some (.lst (cells.map V.int)) ∧ 0 ≤ big ∧ 0 ≤ acc, ?_, ?_⟩
    · -- the first if
      have stay : ∃ (i : Nat) (big acc : Int) (y : Option V), [some (V.ref a), some (.int n), none, none, none] = [some (.ref a), some (.int n), y, none, none] ∧ Ext a H H ∧ H a = some (.lst [.ref c, .int i, .int big, .int acc, .int cnt]) ∧ H c = some (.lst (cells.map V.int)) ∧ 0 ≤ big ∧ 0 ≤ acc :=
        ⟨i, big, acc, none, rfl, Ext.refl a H, ea, ec, hbig, hacc⟩
      refine rd_ix 2 rfl (sql ea) rfl ⟨rfl, _, rfl, ite2 (fun e => ?_) fun _ => iteF stay⟩
      have ib : V.int big = V.int 0 := of_decide_eq_true e
      refine rd_ix 1 rfl (sql ea) rfl (rd_ix 0 rfl (sql ea) rfl ⟨c, _, rfl, .inl (sql ec), _, _, rfl, rfl, _, rfl, ite2 (fun e2 => ?_) fun _ => stay⟩)
      have hi : i < cells.length := by
        have := of_decide_eq_true e2
        rw [List.length_map] at this
        omega
      have hx : (cells.map V.int)[i]? = some (.int cells[i]) := by
        rw [List.getElem?_map, List.getElem?_eq_getElem hi]
        rfl
      have hp := hpos _ (List.getElem_mem hi)
      -- cell = hand[0][hand[1]]
      refine rd_ix 0 rfl (sql ea) rfl (rd_ix 1 rfl (sql ea) rfl ⟨c, _, _, _, rfl, rfl, sql ec, atI_nat hx, ?_⟩)
      -- hand[1] = hand[1] + 1
      refine rd_ix 1 rfl (sql ea) rfl ⟨_, _, rfl, rfl, rd_set 1 rfl ea (by decide : 1 < 5) ?_⟩
      -- hand[3] = ..
      refine rd_ix 3 rfl (sql upd_same) rfl ⟨_, _, rfl, rfl, .inr ⟨by omega, by omega⟩, .int cells[i], rfl, _, _, rfl, rfl, _, _, rfl, rfl, .inl ⟨_, rfl, _, _, rfl, rfl, (by show (0 : Int) < 2147483629; decide), fun m m0 _ _ => rd_set 3 rfl upd_same (by decide : 3 < 5) ?_⟩⟩
      rw [upd_upd]
      have en : ∀ o, (upd H a o) c = some (.lst (cells.map V.int)) := fun o => by
        rw [upd_ne nca]
        exact ec
      refine ⟨.int cells[i], rfl, _, _, rfl, rfl, ⟨by decide, by decide, by decide⟩, _, _, rfl, rfl, _, rfl, ite2 (fun _ => ?_) fun _ => ?_⟩
      · refine ⟨.int cells[i], rfl, rd_set 2 rfl upd_same (by decide : 2 < 5) ?_⟩
        rw [upd_upd]
        exact ⟨i + 1, cells[i], _, _, rfl, (Ext.refl a H).upd, upd_same, en _, hp, m0⟩
      · exact ⟨i + 1, big, _, _, rfl, (Ext.refl a H).upd, upd_same, en _, hbig, m0⟩
    · rintro σ H1 ⟨i, big, acc, y, rfl, ex, ea, ec, hbig, hacc⟩
      have en : ∀ o, (upd H1 a o) c = some (.lst (cells.map V.int)) := fun o => by
        rw [upd_ne nca]
        exact ec
      refine rd_ix 2 rfl (sql ea) rfl ⟨_, _, rfl, rfl, _, rfl, ite2 (fun _ => ?_) fun _ => ?_⟩
      · -- a digit of the great one
        refine rd_ix 2 rfl (sql ea) rfl (.inl ⟨_, rfl, .int n, rfl, _, _, rfl, rfl, hn0, fun m m0 m1 _ => ?_⟩)
        refine rd_ix 2 rfl (sql ea) rfl ⟨.int n, rfl, _, _, rfl, rfl, ⟨hn0, hn1⟩, rd_set 2 rfl ea (by decide : 2 < 5) ?_⟩
        exact ⟨_, rfl, q _ _ ex.upd ⟨cells, i, _, acc, cnt, upd_same, nca, en _, hlen, hpos, Int.ediv_nonneg hbig (by omega), hacc, hcnt⟩ m0 m1⟩
      · refine rd_ix 4 rfl (sql ea) rfl ⟨_, _, rfl, rfl, rd_set 4 rfl ea (by decide : 4 < 5) ?_⟩
        refine rd_ix 3 rfl (sql upd_same) rfl (rd_ix 4 rfl (sql upd_same) rfl ⟨_, _, rfl, rfl, cmulL (by decide) (by decide), _, _, rfl, rfl, .inl ⟨_, rfl, _, _, rfl, rfl, cmulR (by decide) (by decide), .inl ⟨_, rfl, _, _, rfl, rfl, (by show (0 : Int) < 2147483647; decide), fun m1 b1 b2 _ => ?_⟩⟩⟩)
        refine ⟨.int m1, rfl, .int m1, rfl, _, _, rfl, rfl, ⟨by decide, by decide⟩, _, _, rfl, rfl, _, _, rfl, rfl, cmulL b1 (by omega), .inl ⟨_, rfl, _, _, rfl, rfl, (by show (0 : Int) < 2147483647; decide), fun m2 c1 c2 _ => ?_⟩⟩
        refine ⟨.int m2, rfl, .int m2, rfl, _, _, rfl, rfl, ⟨by decide, by decide⟩, _, _, rfl, rfl, _, _, rfl, rfl, cmulL c1 (by omega), .inl ⟨_, rfl, _, _, rfl, rfl, (by show (0 : Int) < 2147483399; decide), fun m3 _ _ _ => ?_⟩⟩
        refine ⟨.int m3, rfl, _, _, rfl, rfl, ⟨by decide, by decide⟩, .inl ⟨_, rfl, .int n, rfl, _, _, rfl, rfl, hn0, fun r r0 r1 _ => ?_⟩⟩
        exact q _ _ ex.upd ⟨cells, i, big, acc, cnt + 1, upd_same, nca, en _, hlen, hpos, hbig, hacc, by omega⟩ r0 r1
end
end Kb

namespace Kb
open PySem PySem.Spec PyProof.Rows L2
/-! texts as lists of signs -/
def cs (z : Str) : List Nat := z.cps.toList
def S (l : List Nat) : Str := ⟨l.toArray⟩
theorem cs_S (l : List Nat) : cs (S l) = l := by simp [cs, S]
theorem S_cs (z : Str) : S (cs z) = z := by cases z; simp [cs, S]
theorem S_app (a b : List Nat) : S a ++ S b = S (a ++ b) := by
  show (⟨a.toArray ++ b.toArray⟩ : Str) = ⟨(a ++ b).toArray⟩
  simp
theorem S_len (l : List Nat) : (S l).length = l.length := by simp [S, Str.length]
theorem cs_len (z : Str) : (cs z).length = z.length := by simp [cs, Str.length]
theorem cs_app (a b : Str) : cs (a ++ b) = cs a ++ cs b := by
  show (a.cps ++ b.cps).toList = _
  simp [cs]
theorem S_inj {a b : List Nat} (h : S a = S b) : a = b := by rw [← cs_S a, h, cs_S]
theorem cs_inj {a b : Str} (h : cs a = cs b) : a = b := by rw [← S_cs a, h, S_cs]
theorem S_one (c : Nat) : (⟨#[c]⟩ : Str) = S [c] := rfl
/-! ''.join, ','.join -/
theorem join0 : ∀ ys : List Str, Str.join (S []) ys = S (ys.map cs).flatten
  | [] => rfl
  | [x] => by
    show x = _
    simp [S_cs]
  | x :: y :: r => by
    show x ++ S [] ++ Str.join (S []) (y :: r) = _
    rw [join0 (y :: r)]
    apply cs_inj
    rw [cs_app, cs_app, cs_S, cs_S, cs_S]
    simp
/-- signs -/
theorem join_signs (l : List Nat) : Txt.join (S []) (l.map fun c => S [c]) = S l := by
  rw [show Txt.join (S []) (l.map fun c => S [c]) = Str.join (S []) (l.map fun c => S [c]) from PySem.StrLaws.glued_eq_join _ _, join0]
  congr 1
  induction l with
  | nil => rfl
  | cons c r ih =>
    rw [List.map_cons, List.map_cons, List.flatten_cons, ih, cs_S]
    rfl
def commas : List (List Nat) → List Nat
  | [] => []
  | [x] => x
  | x :: y :: r => x ++ 44 :: commas (y :: r)
theorem joinC : ∀ ys : List (List Nat), Str.join (S [44]) (ys.map S) = S (commas ys)
  | [] => rfl
  | [x] => rfl
  | x :: y :: r => by
    show S x ++ S [44] ++ Str.join (S [44]) ((y :: r).map S) = _
    rw [joinC (y :: r), S_app, S_app]
    show _ = S (x ++ 44 :: commas (y :: r))
    rw [List.append_assoc]
    rfl
theorem joinT (ys : List (List Nat)) : Txt.join (S [44]) (ys.map S) = S (commas ys) := by rw [show Txt.join (S [44]) (ys.map S) = Str.join (S [44]) (ys.map S) from PySem.StrLaws.glued_eq_join _ _, joinC]
theorem commas_len : ∀ ys : List (List Nat), (commas ys).length + 1 = (ys.map List.length).sum + (if ys = [] then 1 else ys.length)
  | [] => rfl
  | [x] => by
    show x.length + 1 = ([x.length] : List Nat).sum + 1
    simp
  | x :: y :: r => by
    have ih := commas_len (y :: r)
    rw [if_neg (by simp)] at ih ⊢
    show (x ++ 44 :: commas (y :: r)).length + 1 = _
    rw [List.length_append, List.length_cons, List.map_cons, List.sum_cons]
    show x.length + ((commas (y :: r)).length + 1) + 1 = _
    rw [ih]
    simp only [List.length_cons]
    omega
/-! what is drawn: things -/
def esc : List Nat → List Nat
  | [] => []
  | c :: r => if c = 39 ∨ c = 126 then 126 :: c :: esc r else c :: esc r
theorem esc_len : ∀ l, (esc l).length ≤ 2 * l.length
  | [] => Nat.le_refl _
  | c :: r => by
    have := esc_len r
    unfold esc
    split
    · simp only [List.length_cons]
      omega
    · simp only [List.length_cons]
      omega
def dg (i : Int) : List Nat := cs (Str.ofString (toString i))
mutual
def pk : PyData → List Nat
  | .none => [46]
  | .int i => dg i
  | .str z => 39 :: (esc (cs z) ++ [39])
  | .tuple ds => 40 :: (commas (pks ds) ++ [41])
  | _ => []
def pks : List PyData → List (List Nat)
  | [] => []
  | d :: r => pk d :: pks r
end
theorem pks_map : ∀ ds, pks ds = ds.map pk
  | [] => by unfold pks; rfl
  | d :: r => by rw [pks, pks_map r, List.map_cons]
def plainC (c : Nat) : Bool := 32 ≤ c && c ≤ 126
/-- a thing of at most n tuples one in another -/
def Wf : Nat → PyData → Prop
  | _, .none => True
  | _, .int i => i.natAbs < 10 ^ 30
  | _, .str z => ∀ c ∈ cs z, plainC c = true
  | n + 1, .tuple ds => ∀ d ∈ ds, Wf n d
  | _, _ => False
/-- a thing laid -/
inductive Tg (H : Hp) : V → PyData → Prop
  | non : Tg H .non .none
  | int (i : Int) : Tg H (.int i) (.int i)
  | str (z : Str) : Tg H (.str z) (.str z)
  | tup {a : Addr} {xs : List V} {ds : List PyData} : H a = some (.tup xs) → xs.length = ds.length → (∀ (i : Nat) (x : V) (d : PyData), xs[i]? = some x → ds[i]? = some d → Tg H x d) → Tg H (.ref a) (.tuple ds)
theorem Tg.mono {H H' : Hp} (k : ∀ b xs, H b = some (.tup xs) → H' b = some (.tup xs)) {v : V} {d : PyData} (h : Tg H v d) : Tg H' v d := by
  induction h with
  | non => exact .non
  | int i => exact .int i
  | str z => exact .str z
  | tup e hl h ih => exact .tup (k _ _ e) hl ih
theorem Tg.same {H H' : Hp} (s : Same H H') {v : V} {d : PyData} (h : Tg H v d) : Tg H' v d := h.mono fun b xs e => s b _ e
theorem Tg.ext {H H' : Hp} {a c : Addr} (hd : Hand c H a) (s : Ext a H H') {v : V} {d : PyData} (h : Tg H v d) : Tg H' v d := h.mono fun b xs e => s b _ (fun z => by
  obtain ⟨cells, i, big, acc, cnt, e1, _⟩ := hd
  rw [z, e1] at e
  cases e) e
theorem Tg.new {H : Hp} {p : Addr} {o : HO} (hp : H p = none) {v : V} {d : PyData} (h : Tg H v d) : Tg (upd H p o) v d := h.same (same_upd hp)
theorem dpAll_of {K : PySem.W.Frag} {H : Hp} : ∀ {xs : List V} {ds : List PyData}, xs.length = ds.length → (∀ (i : Nat) (x : V) (d : PyData), xs[i]? = some x → ds[i]? = some d → Dp K H x d) → DpAll K H xs ds
  | [], [], _, _ => .nil
  | [], _ :: _, h, _ => by cases h
  | _ :: _, [], h, _ => by cases h
  | x :: xs, d :: ds, h, k => .cons (k 0 x d rfl rfl) (dpAll_of (by simpa using h) fun i y e h1 h2 => k (i + 1) y e h1 h2)
theorem Tg.dp {K : PySem.W.Frag} {H : Hp} {v : V} {d : PyData} (h : Tg H v d) : Dp K H v d := by
  induction h with
  | non => exact .non
  | int i => exact .int i
  | str z => exact .str z
  | tup e hl h ih => exact .tup (.inl (.inl e)) (dpAll_of hl ih)
/-- its type -/
def tyD : PyData → String
  | .none => "NoneType"
  | .int _ => "int"
  | .str _ => "str"
  | _ => "tuple"
theorem Tg.ty {K : PySem.W.Frag} {H : Hp} {v : V} {d : PyData} (h : Tg H v d) : TyX K H v (.type (tyD d)) := by
  cases h with
  | non => exact .base .non
  | int i => exact .base (.int i)
  | str z => exact .base (.str z)
  | tup e _ _ => exact .base (.tup e)
/-! written texts -/
theorem str_one (s : String) (l : List Nat) (h : cs (Str.ofString s) = l) : Str.ofString s = S l := by rw [← h, S_cs]
section
variable {X : Cx} {o e f : Expr} {te tf : TE} {y z : Str} {j k : Nat} {c0 c1 apos pos p p' : Pos}
/-- 'x' + e, e wants a token -/
theorem pe_opC {op : Operator} {r : R2} (ho : OpR X (binaryOp op) r) (hb : PET X f tf) : PE X (.BinOp (.Constant (.str z) j p) op f pos) (tOp r (tC (.str z)) tf) :=
  ⟨fun pins s σ H Q I h => wpAny_BinOp (Calls.Constant_str (thn (hb pins { s with toks := s.toks + 1 } σ H _ (by show 1 ≤ s.toks + 1; omega) (I.tok _) h) fun u s2 ⟨y, H2, I2, r2, q2⟩ => ho pins s2 σ H2 (.str z) y _ u Q I2 ⟨_, rfl⟩ r2 q2))⟩
end
end Kb

namespace Kb
open PySem PySem.Spec PyProof.Rows L2
abbrev sany : Stmt := topS 29
abbrev Nany : List Str := ["_law_hand_here", "_law_things"]
theorem scany : FnScope ["_law_hand_here", "_law_things"] ["_law_hand_here", "_law_things"] (defScope sany) := ⟨rfl, rfl, rfl, by decide +kernel, rfl, by decide +kernel, by decide +kernel⟩
abbrev sword : Stmt := topS 30
abbrev Nword : List Str := ["_law_hand_here", "_law_signs", "_law_k"]
theorem scword : FnScope ["_law_hand_here", "_law_signs", "_law_k"] ["_law_hand_here"] (defScope sword) := ⟨rfl, rfl, rfl, by decide +kernel, rfl, by decide +kernel, by decide +kernel⟩
abbrev sthing : Stmt := topS 31
abbrev Nthing : List Str := ["_law_hand_here", "_law_deep_here", "_law_kind", "_law_k"]
theorem scthing : FnScope ["_law_hand_here", "_law_deep_here", "_law_kind", "_law_k"] ["_law_hand_here", "_law_deep_here"] (defScope sthing) := ⟨rfl, rfl, rfl, by decide +kernel, rfl, by decide +kernel, by decide +kernel⟩
theorem all_plain {z : Str} (h : (cs z).all plainC = true) : ∀ c ∈ cs z, plainC c = true := fun c hc => List.all_eq_true.mp h c hc
/-- what is drawn as a thing, by its depth -/
def drInts : List Int := [0, 1, -1, 7, 10, -205, 10 ^ 30 - 1, -10 ^ 30 + 1, 99991]
inductive Dr : Nat → PyData → Prop
  | non (n : Nat) : Dr n .none
  | int (n : Nat) {i : Int} : i ∈ drInts → Dr n (.int i)
  | str (n : Nat) {z : Str} : (∀ c ∈ cs z, plainC c = true) → (cs z).length ≤ 6 → Dr n (.str z)
  | tup (n : Nat) {ds : List PyData} : ds.length ≤ 3 → (∀ d ∈ ds, Dr n d) → Dr (n + 1) (.tuple ds)
/-- the lists side by side -/
def Tgs (H : Hp) (xs : List V) (ds : List PyData) : Prop := xs.length = ds.length ∧ ∀ (i : Nat) (x : V) (d : PyData), xs[i]? = some x → ds[i]? = some d → Tg H x d
theorem Tgs.mono {H H' : Hp} (k : ∀ b xs, H b = some (.tup xs) → H' b = some (.tup xs)) {xs : List V} {ds : List PyData} (h : Tgs H xs ds) : Tgs H' xs ds := ⟨h.1, fun i x d h1 h2 => (h.2 i x d h1 h2).mono k⟩
theorem Tgs.snoc {H : Hp} {xs : List V} {ds : List PyData} {x : V} {d : PyData} (h : Tgs H xs ds) (t : Tg H x d) : Tgs H (xs ++ [x]) (ds ++ [d]) := by
  refine ⟨by rw [List.length_append, List.length_append, h.1]; rfl, fun i y e h1 h2 => ?_⟩
  by_cases hi : i < xs.length
  · rw [List.getElem?_append_left hi] at h1
    rw [List.getElem?_append_left (by rw [← h.1]; exact hi)] at h2
    exact h.2 i y e h1 h2
  · rw [List.getElem?_append_right (by omega)] at h1
    rw [List.getElem?_append_right (by rw [← h.1]; omega), ← h.1] at h2
    cases hj : i - xs.length with
    | zero =>
      rw [hj] at h1 h2
      cases h1
      cases h2
      exact t
    | succ j =>
      rw [hj] at h1
      cases h1
theorem tup_putl {H : Hp} {D : Addr} {xs ys : List V} (e : H D = some (.lst xs)) : ∀ b zs, H b = some (.tup zs) → upd H D (.lst ys) b = some (.tup zs) := fun b zs h => by
  rw [upd_ne (ne_of h e (by intro z; cases z))]
  exact h
theorem tup_ext {H H' : Hp} {a c : Addr} (hd : Hand c H a) (s : Ext a H H') : ∀ b zs, H b = some (.tup zs) → H' b = some (.tup zs) := fun b zs e => s b _ (fun z => by
  obtain ⟨cells, i, big, acc, cnt, e1, _⟩ := hd
  rw [z, e1] at e
  cases e) e
section
variable {P : Program} {w : World} {K : PySem.W.Frag} {mg : Str → Option Value} {base : Heap}
abbrev DnDraw (K : PySem.W.Frag) (mg : Str → Option Value) := Dn K mg "_law_draw" sdraw ["_law_hand_here", "_law_many"]
abbrev DnAny (K : PySem.W.Frag) (mg : Str → Option Value) := Dn K mg "_law_any" sany ["_law_hand_here", "_law_things"]
abbrev DnWord (K : PySem.W.Frag) (mg : Str → Option Value) := Dn K mg "_law_word" sword ["_law_hand_here"]
abbrev DnThing (K : PySem.W.Frag) (mg : Str → Option Value) := Dn K mg "_law_thing" sthing ["_law_hand_here", "_law_deep_here"]
/-! _law_any -/
def spAny : Sp := fun vs H Q _ => ∃ (a c : Addr) (x : V), vs = [.ref a, x] ∧ Hand c H a ∧
  ((∃ (p : Addr) (xs : List V), x = .ref p ∧ p ≠ a ∧ H p = some (.lst xs) ∧ 0 < xs.length ∧ xs.length ≤ 1000 ∧ ∀ H' v, v ∈ xs → Ext a H H' → Hand c H' a → Q v H') ∨
   (∃ z : Str, x = .str z ∧ 0 < z.length ∧ z.length ≤ 1000 ∧ ∀ H' s, s ∈ cs z → Ext a H H' → Hand c H' a → Q (.str (S [s])) H'))
theorem ok_any (T : Blt mg) (ddraw : DnDraw K mg) (d : DnAny K mg) : FnOk P w K mg base CX0 2 d.f d.fd ["_law_hand_here", "_law_things"] spAny := by
  have Gdraw : FnOk P w K mg base CX0 1 ddraw.f ddraw.fd ["_law_hand_here", "_law_many"] spDraw := ok_draw T ddraw
  refine d.F.ok scany (fun vs H Q E h => ?_) (fun cdv A outer s H vs Q E hr h => ?_)
  · obtain ⟨a, c, x, rfl, _⟩ := h
    rfl
  · obtain ⟨a, c, x, rfl, hd, h | h⟩ := h
    · obtain ⟨p, xs, rfl, hpa, hp, h0, h1, q⟩ := h
      refine ⟨_, (pss_one (ps_ret (pe_ix ix_list (pv 1) (pe_call Gdraw (hr.mono (by omega)) (by rfl) ddraw.g ddraw.F.kp ddraw.b .nil pass0 (pa_cons (pv 0) (pa_cons (pe_callB call_len_seq (by rfl) T.n_len (by decide +kernel) (pa_cons (pv 1) pa_nil)) pa_nil))) (fun _ _ => rfl)))), ?_⟩
      refine ⟨.ref p, rfl, .ref a, rfl, .ref p, rfl, p, xs, rfl, .inl (sql hp), a, c, _, rfl, hd, by omega, by omega, fun H' r ex hd' r0 r1 => ?_⟩
      obtain ⟨k, rfl⟩ := Int.eq_ofNat_of_zero_le r0
      have hk : k < xs.length := by omega
      exact ⟨p, xs, _, xs[k], rfl, rfl, sql (ex _ _ hpa hp), atI_nat (List.getElem?_eq_getElem hk), q H' _ (List.getElem_mem hk) ex hd'⟩
    · obtain ⟨z, rfl, h0, h1, q⟩ := h
      refine ⟨_, (pss_one (ps_ret (pe_ix ix_str (pv 1) (pe_call Gdraw (hr.mono (by omega)) (by rfl) ddraw.g ddraw.F.kp ddraw.b .nil pass0 (pa_cons (pv 0) (pa_cons (pe_callB call_len_str (by rfl) T.n_len (by decide +kernel) (pa_cons (pv 1) pa_nil)) pa_nil))) (fun _ _ => rfl)))), ?_⟩
      refine ⟨.str z, rfl, .ref a, rfl, .str z, rfl, _, rfl, by rw [sizeLine_eq]; omega, a, c, _, rfl, hd, by omega, by omega, fun H' r ex hd' r0 r1 => ?_⟩
      obtain ⟨k, rfl⟩ := Int.eq_ofNat_of_zero_le r0
      have hk : k < (cs z).length := by rw [cs_len]; omega
      exact ⟨z, _, (cs z)[k], rfl, rfl, by rw [sizeLine_eq]; omega, atI_nat (List.getElem?_eq_getElem hk), q H' _ (List.getElem_mem hk) ex hd'⟩
/-! _law_word -/
def spWord : Sp := fun vs H Q _ => ∃ (a c : Addr), vs = [.ref a] ∧ Hand c H a ∧ ∀ H' (z : Str), (∀ c ∈ cs z, plainC c = true) → (cs z).length ≤ 6 → Ext a H H' → Hand c H' a → Q (.str z) H'
theorem ok_word (T : Blt mg) (ddraw : DnDraw K mg) (dany : DnAny K mg) (d : DnWord K mg) : FnOk P w K mg base CX0 3 d.f d.fd ["_law_hand_here"] spWord := by
  have Gdraw : FnOk P w K mg base CX0 1 ddraw.f ddraw.fd ["_law_hand_here", "_law_many"] spDraw := ok_draw T ddraw
  have Gany : FnOk P w K mg base CX0 2 dany.f dany.fd ["_law_hand_here", "_law_things"] spAny := ok_any T ddraw dany
  refine d.F.ok scword (fun vs H Q E h => ?_) (fun cdv A outer s H vs Q E hr h => ?_)
  · obtain ⟨a, c, rfl, _⟩ := h
    rfl
  · obtain ⟨a, c, rfl, hd, q⟩ := h
    refine ⟨_, (pss_cons (ps_set (i := 1) scword.nd rfl (Or.inr rfl) pe_str)
    (pss_one (ps_ret (pe_join pe_str (pe_lc (own := [("_law_k", 2)]) (g := gName 2) (tt := tYes) rfl scword.nd (pi_range1 (by rfl) T.n_range (pa_cons (pe_call Gdraw (hr.mono (by omega)) (by rfl) ddraw.g ddraw.F.kp ddraw.b .nil pass0 (pa_cons (pv 0) (pa_cons pe_int pa_nil))) pa_nil)) (blkOk_by (N := Nword) (sc := defScope sword) (by decide +kernel)) (fun _ _ _ _ _ => pg_name (i := 2) scword.nd rfl (Or.inl rfl)) (fun _ _ _ _ _ => pts_nil) (fun _ _ _ _ _ => (pe_call Gany (hr.mono (by omega)) (by rfl) dany.g dany.F.kp dany.b .nil pass0 (pa_cons (pv 0) (pa_cons (pv 1) pa_nil))))))))), ?_⟩
    refine ⟨⟨_, rfl⟩, .ref a, rfl, a, c, _, rfl, hd, by decide, by decide, fun H1 r ex1 hd1 r0 r1 => ?_⟩
    obtain ⟨k, rfl⟩ := Int.eq_ofNat_of_zero_le r0
    refine ⟨_, rfl, by omega, by omega, fun D nD => ?_⟩
    refine lc_range (lo := 0) (n := k) (fun i H3 => Ext a H1 H3 ∧ Hand c H3 a ∧ ∃ l : List Nat, l.length = i ∧ (∀ c ∈ l, plainC c = true) ∧ H3 D = some (.lst (l.map fun c => V.str (S [c])))) ⟨(Ext.refl a H1).put nD, hd1.put hd1 nD, [], rfl, by simp, upd_same⟩ (fun i H3 hi h3 => ?_) (fun H3 h3 => ?_)
    · obtain ⟨ex3, hd3, l, hl, hp, eD⟩ := h3
      refine ⟨rfl, .ref a, rfl, _, rfl, a, c, _, rfl, hd3, .inr ⟨_, rfl, by decide +kernel, by decide +kernel, fun H4 s hs ex4 hd4 => ?_⟩⟩
      have eD4 := ex4 _ _ (hd1.ne nD) eD
      refine ⟨_, eD4, ?_, (ex3.trans ex4).put nD, hd4.put hd1 nD, l ++ [s], ?_, ?_, ?_⟩
      · rw [List.length_map]
        exact small1000 (by omega)
      · rw [List.length_append, hl]
        rfl
      · intro x hx
        rcases List.mem_append.mp hx with hx | hx
        · exact hp x hx
        · rw [List.mem_singleton.mp hx]
          exact all_plain (by decide +kernel) s hs
      · rw [upd_same, List.map_append]
        rfl
    · obtain ⟨ex3, hd3, l, hl, hp, eD⟩ := h3
      refine ⟨_, D, l.map fun c => S [c], rfl, rfl, .inl (sql ?_), ?_, ?_⟩
      · rw [eD, List.map_map]
        rfl
      · rw [List.map_map, List.length_map]
        have : ((List.map ((fun x => x.length) ∘ fun c => S [c]) l)).sum = l.length := by
          clear hl hp eD
          induction l with
          | nil => rfl
          | cons x r ih =>
            rw [List.map_cons, List.sum_cons, ih, List.length_cons]
            show 1 + _ = _
            omega
        rw [this]
        show l.length + l.length * 0 ≤ 16777216
        omega
      · have e : Txt.join (Str.ofString "") (l.map fun c => S [c]) = S l := join_signs l
        rw [e]
        exact q H3 (S l) (by rw [cs_S]; exact hp) (by rw [cs_S]; omega) (ex1.trans ex3) hd3
/-! _law_thing -/
def spThing (n : Nat) : Sp := fun vs H Q _ => ∃ (a c : Addr), vs = [.ref a, .int (n : Int)] ∧ Hand c H a ∧ ∀ H' v d, Tg H' v d → Dr n d → Ext a H H' → Hand c H' a → Q v H'
theorem ok_no {nm : Str} {st : Stmt} {ps N : List Str} (d : Dn K mg nm st ps) (S : FnScope N ps (defScope st)) : FnOk P w K mg base CX0 1 d.f d.fd ps (fun _ _ _ _ => False) :=
  d.F.ok S (fun _ _ _ _ h => h.elim) (fun _ _ _ _ _ _ _ _ _ h => h.elim)
def spThing' : Nat → Sp
  | 0 => fun _ _ _ _ => False
  | n + 1 => spThing n
theorem ok_thing' (T : Blt mg) (ddraw : DnDraw K mg) (dany : DnAny K mg) (dword : DnWord K mg) (dthing : DnThing K mg) (n : Nat) (Gthing : FnOk P w K mg base CX0 (n + 3) dthing.f dthing.fd ["_law_hand_here", "_law_deep_here"] (spThing' n)) :
    FnOk P w K mg base CX0 (n + 4) dthing.f dthing.fd ["_law_hand_here", "_law_deep_here"] (spThing n) := by
  have Gdraw : FnOk P w K mg base CX0 1 ddraw.f ddraw.fd ["_law_hand_here", "_law_many"] spDraw := ok_draw T ddraw
  have Gany : FnOk P w K mg base CX0 2 dany.f dany.fd ["_law_hand_here", "_law_things"] spAny := ok_any T ddraw dany
  have Gword : FnOk P w K mg base CX0 3 dword.f dword.fd ["_law_hand_here"] spWord := ok_word T ddraw dany dword
  refine dthing.F.ok scthing (fun vs H Q E h => ?_) (fun cdv A outer s H vs Q E hr h => ?_)
  · obtain ⟨a, c, rfl, _⟩ := h
    rfl
  · obtain ⟨a, c, rfl, hd, q⟩ := h
    refine ⟨_, (C8.pss_cut (ps_set (i := 2) scthing.nd rfl (Or.inl rfl) (pe_call Gdraw (hr.mono (by omega)) (by rfl) ddraw.g ddraw.F.kp ddraw.b .nil pass0 (pa_cons (pv 0) (pa_cons (pe_ifExp (pt_cmpR op_gt (pv 1) pe_int (nomark _)) pe_int pe_int) pa_nil))))
    (pss_cons (ps_if (pt_cmpR op_eq (pv 2) pe_int (nomark _))
      (pss_one (ps_ret (pe_call Gany (hr.mono (by omega)) (by rfl) dany.g dany.F.kp dany.b .nil pass0 (pa_cons (pv 0) (pa_cons (pe_lst (pa_cons pe_int (pa_cons pe_int (pa_cons (pe_un un_neg pe_int) (pa_cons pe_int (pa_cons pe_int (pa_cons (pe_un un_neg pe_int) (pa_cons (pe_op op_sub (pe_op op_pow pe_int pe_int) pe_int) (pa_cons (pe_op op_add (pe_un un_neg (pe_op op_pow pe_int pe_int)) pe_int) (pa_cons pe_int pa_nil)))))))))) pa_nil)))))
      pss_nil)
    (pss_cons (ps_if (pt_cmpR op_eq (pv 2) pe_int (nomark _))
      (pss_one (ps_ret pe_non))
      pss_nil)
    (pss_cons (ps_if (pt_cmpR op_lt (pv 2) pe_int (nomark _))
      (pss_one (ps_ret (pe_call Gword (hr.mono (by omega)) (by rfl) dword.g dword.F.kp dword.b .nil pass0 (pa_cons (pv 0) pa_nil))))
      pss_nil)
    (pss_one (ps_ret (pe_callTy call_tuple_of (by rfl) T.n_tuple (by decide +kernel) (pa_cons (pe_lc (own := [("_law_k", 3)]) (g := gName 3) (tt := tYes) rfl scthing.nd (pi_range1 (by rfl) T.n_range (pa_cons (pe_call Gdraw (hr.mono (by omega)) (by rfl) ddraw.g ddraw.F.kp ddraw.b .nil pass0 (pa_cons (pv 0) (pa_cons pe_int pa_nil))) pa_nil)) (blkOk_by (N := Nthing) (sc := defScope sthing) (by decide +kernel)) (fun _ _ _ _ _ => pg_name (i := 3) scthing.nd rfl (Or.inl rfl)) (fun _ _ _ _ _ => pts_nil) (fun _ _ _ _ _ => (pe_call Gthing (hr.mono (by omega)) (by rfl) dthing.g dthing.F.kp dthing.b .nil pass0 (pa_cons (pv 0) (pa_cons (pe_op op_sub (pv 1) pe_int) pa_nil))))) pa_nil)))))))), ?_⟩
    refine ⟨fun σ H1 => ∃ r : Int, σ = [some (.ref a), some (.int (n : Int)), some (.int r), none] ∧ 0 ≤ r ∧ r < 6 ∧ (n = 0 → r < 4) ∧ Ext a H H1 ∧ Hand c H1 a, ?_, ?_⟩
    · refine ⟨.ref a, rfl, .int (n : Int), rfl, _, _, rfl, rfl, _, rfl, ite2 (fun e => ?_) (fun e => ?_)⟩
      · refine ⟨a, c, _, rfl, hd, by decide, by decide, fun H1 r ex hd' r0 r1 => ⟨r, rfl, r0, r1, fun z => ?_, ex, hd'⟩⟩
        have := of_decide_eq_true e
        omega
      · exact ⟨a, c, _, rfl, hd, by decide, by decide, fun H1 r ex hd' r0 r1 => ⟨r, rfl, r0, by omega, fun _ => r1, ex, hd'⟩⟩
    · rintro σ H1 ⟨r, rfl, r0, r1, hn, ex, hd1⟩
      refine ⟨.int r, rfl, rfl, _, rfl, ite2 (fun e => ?_) (fun e0 => ?_)⟩
      · refine ⟨.ref a, rfl, _, rfl, _, rfl, _, _, rfl, rfl, ⟨by decide, by decide, by decide⟩, _, _, rfl, rfl, _, _, rfl, rfl, ⟨by decide, by decide, by decide⟩, _, rfl, _, _, rfl, rfl, (by decide : 9 ≤ sizeLine), fun p np => ?_⟩
        refine ⟨a, c, _, rfl, hd1.put hd1 np, .inl ⟨p, _, rfl, hd1.ne np, upd_same, by decide, by decide, fun H2 v hv ex2 hd2 => ?_⟩⟩
        have hv2 : v ∈ drInts.map V.int := hv
        obtain ⟨i, hi, rfl⟩ := List.mem_map.mp hv2
        exact q H2 _ _ (.int i) (.int n hi) (ex.trans (((Ext.refl a H1).put np).trans ex2)) hd2
      · refine ⟨.int r, rfl, rfl, _, rfl, ite2 (fun e => ?_) (fun e1 => ?_)⟩
        · exact q H1 _ _ .non (.non n) ex hd1
        · refine ⟨.int r, rfl, _, _, rfl, rfl, _, rfl, ite2 (fun e => ?_) (fun e4 => ?_)⟩
          · exact ⟨.ref a, rfl, a, c, rfl, hd1, fun H2 z hz hl ex2 hd2 => q H2 _ _ (.str z) (.str n hz hl) (ex.trans ex2) hd2⟩
          · have h4 : ¬ r < 4 := fun z => e4 (decide_eq_true z)
            cases n with
            | zero => exact absurd (hn rfl) h4
            | succ n =>
              refine ⟨.ref a, rfl, a, c, _, rfl, hd1, by decide, by decide, fun H2 m ex2 hd2 m0 m1 => ?_⟩
              obtain ⟨k, rfl⟩ := Int.eq_ofNat_of_zero_le m0
              refine ⟨_, rfl, by omega, by omega, fun D nD => ?_⟩
              refine lc_range (lo := 0) (n := k) (fun i H3 => Ext a H2 H3 ∧ Hand c H3 a ∧ ∃ (xs : List V) (ds : List PyData), xs.length = i ∧ Tgs H3 xs ds ∧ (∀ d ∈ ds, Dr n d) ∧ H3 D = some (.lst xs))
                ⟨(Ext.refl a H2).put nD, hd2.put hd2 nD, [], [], rfl, ⟨rfl, fun i x d h _ => by simp at h⟩, by simp, upd_same⟩ (fun i H3 hi h3 => ?_) (fun H3 h3 => ?_)
              · obtain ⟨ex3, hd3, xs, ds, hl, ht, hdr, eD⟩ := h3
                refine ⟨rfl, .ref a, rfl, .int ((n + 1 : Nat) : Int), rfl, _, _, rfl, rfl, a, c, ?_, hd3, fun H4 v d tv dv ex4 hd4 => ?_⟩
                · show [V.ref a, V.int (((n + 1 : Nat) : Int) - 1)] = _
                  rw [show (((n + 1 : Nat) : Int) - 1) = (n : Int) by omega]
                · have eD4 := ex4 _ _ (hd1.ne (by
                    cases e : H1 D with
                    | none => rfl
                    | some o =>
                      have hDa : D ≠ a := hd2.ne nD
                      rw [ex2 _ _ hDa e] at nD
                      cases nD)) eD
                  refine ⟨_, eD4, ?_, (ex3.trans ex4).put nD, hd4.put hd2 nD, xs ++ [v], ds ++ [d], ?_, ?_, ?_, upd_same⟩
                  · exact small1000 (by omega)
                  · rw [List.length_append, hl]
                    rfl
                  · exact ((ht.mono (tup_ext hd3 ex4)).snoc tv).mono (tup_putl eD4)
                  · intro x hx
                    rcases List.mem_append.mp hx with hx | hx
                    · exact hdr x hx
                    · rw [List.mem_singleton.mp hx]
                      exact dv
              · obtain ⟨ex3, hd3, xs, ds, hl, ht, hdr, eD⟩ := h3
                refine ⟨D, xs, rfl, .inl ⟨sql eD, fun l nl => ?_⟩⟩
                have ht2 := ht.mono (H' := upd H3 l (.tup xs)) fun b zs e => same_upd nl b _ e
                exact q _ _ (.tuple ds) (.tup upd_same ht2.1 ht2.2) (.tup n (by rw [← ht.1]; omega) hdr) ((ex.trans ex2).trans (ex3.trans ((Ext.refl a H3).put nl))) (hd3.put hd3 nl)
theorem ok_thing (T : Blt mg) (ddraw : DnDraw K mg) (dany : DnAny K mg) (dword : DnWord K mg) (dthing : DnThing K mg) : ∀ n : Nat, FnOk P w K mg base CX0 (n + 4) dthing.f dthing.fd ["_law_hand_here", "_law_deep_here"] (spThing n)
  | 0 => ok_thing' T ddraw dany dword dthing 0 ((ok_no dthing scthing).mono (by decide))
  | n + 1 => ok_thing' T ddraw dany dword dthing (n + 1) (ok_thing T ddraw dany dword dthing n)
end
end Kb

namespace Kb
open PySem PySem.Spec PyProof.Rows L2
abbrev sP_is_int : Stmt := topS 6
abbrev NP_is_int : List Str := ["thing"]
theorem scP_is_int : FnScope ["thing"] ["thing"] (defScope sP_is_int) := ⟨rfl, rfl, rfl, by decide +kernel, rfl, by decide +kernel, by decide +kernel⟩
abbrev sP_is_plain : Stmt := topS 7
abbrev NP_is_plain : List Str := ["thing", "sign"]
theorem scP_is_plain : FnScope ["thing", "sign"] ["thing"] (defScope sP_is_plain) := ⟨rfl, rfl, rfl, by decide +kernel, rfl, by decide +kernel, by decide +kernel⟩
abbrev sP_packed : Stmt := topS 13
abbrev NP_packed : List Str := ["thing"]
theorem scP_packed : FnScope ["thing"] ["thing"] (defScope sP_packed) := ⟨rfl, rfl, rfl, by decide +kernel, rfl, by decide +kernel, by decide +kernel⟩
abbrev sP_text_of : Stmt := topS 14
abbrev NP_text_of : List Str := ["thing", "depth", "item"]
theorem scP_text_of : FnScope ["thing", "depth", "item"] ["thing", "depth"] (defScope sP_text_of) := ⟨rfl, rfl, rfl, by decide +kernel, rfl, by decide +kernel, by decide +kernel⟩
abbrev spacked : Stmt := topS 32
abbrev Npacked : List Str := ["_law_thing_here", "_law_one", "_law_sign"]
theorem scpacked : FnScope ["_law_thing_here", "_law_one", "_law_sign"] ["_law_thing_here"] (defScope spacked) := ⟨rfl, rfl, rfl, by decide +kernel, rfl, by decide +kernel, by decide +kernel⟩
theorem lt_one (a b : Nat) : decide ([a] < [b]) = decide (a < b) := by
  have : ([a] < [b]) ↔ a < b := by simp [List.cons_lt_cons_iff]
  by_cases h : a < b
  · rw [decide_eq_true h, decide_eq_true (this.mpr h)]
  · rw [decide_eq_false h, decide_eq_false (fun z => h (this.mp z))]
theorem plainC_eq (c : Nat) : plainC c = ((!decide (c < 32)) && (!decide (126 < c))) := by
  unfold plainC
  by_cases h1 : c < 32
  · have h2 : ¬ 32 ≤ c := by omega
    rw [decide_eq_true h1, decide_eq_false h2]
    rfl
  · have h2 : 32 ≤ c := by omega
    rw [decide_eq_false h1, decide_eq_true h2]
    by_cases h3 : 126 < c
    · have h4 : ¬ c ≤ 126 := by omega
      rw [decide_eq_true h3, decide_eq_false h4]
      rfl
    · have h4 : c ≤ 126 := by omega
      rw [decide_eq_false h3, decide_eq_true h4]
      rfl
/-! replacing -/
theorem repl1 (y : Nat) (zz : List Nat) (c : Nat) (r : List Nat) : PySem.StrLaws.replL [y] zz (c :: r) = if c = y then zz ++ PySem.StrLaws.replL [y] zz r else c :: PySem.StrLaws.replL [y] zz r := by
  by_cases h : c = y
  · rw [if_pos h, PySem.StrLaws.replL_hit (by simp) (by simp [h])]
    rfl
  · rw [if_neg h, PySem.StrLaws.replL_miss (by simpa using h)]
theorem esc_cons (c : Nat) (r : List Nat) : esc (c :: r) = if c = 39 ∨ c = 126 then 126 :: c :: esc r else c :: esc r := by rw [esc]
theorem repl_esc : ∀ l : List Nat, PySem.StrLaws.replL [39] [126, 39] (PySem.StrLaws.replL [126] [126, 126] l) = esc l
  | [] => by rw [PySem.StrLaws.replL_nil, PySem.StrLaws.replL_nil]; rfl
  | c :: r => by
    have ih := repl_esc r
    rw [repl1]
    by_cases h : c = 126
    · rw [if_pos h]
      rw [List.cons_append, List.cons_append, List.nil_append]
      rw [repl1, if_neg (by decide), repl1, if_neg (by decide), ih]
      rw [esc_cons, if_pos (.inr h), h]
    · rw [if_neg h, repl1]
      by_cases h2 : c = 39
      · rw [if_pos h2, ih, esc_cons, if_pos (.inl h2), h2]
        rfl
      · rw [if_neg h2, ih, esc_cons, if_neg (by rintro (z | z); exact h2 z; exact h z)]
theorem repl_str (z : Str) : Txt.replace (Txt.replace z (Str.ofString "~") (Str.ofString "~~")) (Str.ofString "'") (Str.ofString "~'") = S (esc (cs z)) := by
  have e1 : (Str.ofString "~").cps.toList = [126] := by decide +kernel
  have e2 : (Str.ofString "~~").cps.toList = [126, 126] := by decide +kernel
  have e3 : (Str.ofString "'").cps.toList = [39] := by decide +kernel
  have e4 : (Str.ofString "~'").cps.toList = [126, 39] := by decide +kernel
  apply cs_inj
  rw [cs_S]
  show (Txt.replace (Txt.replace z (Str.ofString "~") (Str.ofString "~~")) (Str.ofString "'") (Str.ofString "~'")).cps.toList = _
  rw [PySem.StrLaws.replace_list (by decide +kernel), PySem.StrLaws.replace_list (by decide +kernel), e1, e2, e3, e4]
  exact repl_esc _
/-! lengths -/
theorem sum_mem {l : List Nat} {x : Nat} (h : x ∈ l) : x ≤ l.sum := by
  induction l with
  | nil => cases h
  | cons y r ih =>
    rw [List.sum_cons]
    rcases List.mem_cons.mp h with h | h
    · omega
    · have := ih h
      omega
theorem pk_tup_len (ds : List PyData) : (pk (.tuple ds)).length = (commas (ds.map pk)).length + 2 := by
  rw [pk, pks_map, List.length_cons, List.length_append]
  rfl
theorem pk_mem_len {ds : List PyData} {d : PyData} (h : d ∈ ds) : (pk d).length ≤ (pk (.tuple ds)).length := by
  rw [pk_tup_len]
  have h1 := commas_len (ds.map pk)
  have h2 : (pk d).length ≤ ((ds.map pk).map List.length).sum := sum_mem (List.mem_map.mpr ⟨_, List.mem_map.mpr ⟨d, h, rfl⟩, rfl⟩)
  split at h1 <;> omega
theorem join_fits {ds : List PyData} {n : Nat} (h : (pk (.tuple ds)).length ≤ n) : (((ds.map pk).map S).map (·.length)).sum + ((ds.map pk).map S).length * (Str.ofString ",").length ≤ n := by
  have e : (Str.ofString ",").length = 1 := by decide +kernel
  rw [pk_tup_len] at h
  have h1 := commas_len (ds.map pk)
  have h2 : ((ds.map pk).map S).map (·.length) = (ds.map pk).map List.length := by
    rw [List.map_map]
    exact List.map_congr_left fun l _ => S_len l
  rw [h2, e, List.length_map, Nat.mul_one]
  split at h1
  · rename_i hz
    rw [hz]
    exact Nat.zero_le _
  · omega
theorem tup_text (ds : List PyData) : Str.ofString "(" ++ Txt.join (Str.ofString ",") ((ds.map pk).map S) ++ Str.ofString ")" = S (pk (.tuple ds)) := by
  have e1 : Str.ofString "(" = S [40] := by decide +kernel
  have e2 : Str.ofString "," = S [44] := by decide +kernel
  have e3 : Str.ofString ")" = S [41] := by decide +kernel
  rw [e1, e2, e3, joinT, S_app, S_app, pk, pks_map]
  rfl
theorem join_txt (ds : List PyData) : Txt.join (Str.ofString ",") ((ds.map pk).map S) = S (commas (ds.map pk)) := by
  have e2 : Str.ofString "," = S [44] := by decide +kernel
  rw [e2, joinT]
theorem kit_of_list (d : PyData) (T : String) (h : ∀ t ∈ ["NoneType", "int", "str", "tuple"], kitB t T = some (decide (t = T))) : kitB (tyD d) T = some (decide (tyD d = T)) := h _ (by cases d <;> simp [tyD])
theorem kit_tup (d : PyData) : kitB (tyD d) "tuple" = some (decide (tyD d = "tuple")) := kit_of_list d _ (by decide +kernel)
theorem kit_str (d : PyData) : kitB (tyD d) "str" = some (decide (tyD d = "str")) := kit_of_list d _ (by decide +kernel)
theorem kit_int (d : PyData) : kitB (tyD d) "int" = some (decide (tyD d = "int")) := kit_of_list d _ (by decide +kernel)
theorem kit_bool (d : PyData) : kitB (tyD d) "bool" = some false := by
  have h : ∀ t ∈ ["NoneType", "int", "str", "tuple"], kitB t "bool" = some false := by decide +kernel
  exact h _ (by cases d <;> simp [tyD])
theorem wf_int {n : Nat} {i : Int} (h : Wf n (.int i)) : i.natAbs < 1000000000000000000000000000000 := by
  cases n <;> exact h
theorem wf_str {n : Nat} {z : Str} (h : Wf n (.str z)) : (cs z).all plainC = true := by
  have h2 : ∀ c ∈ cs z, plainC c = true := by cases n <;> exact h
  exact List.all_eq_true.mpr h2
theorem int_bits {i : Int} (h : i.natAbs < 1000000000000000000000000000000) : i.natAbs.log2 < 1920 := by
  by_cases h0 : i.natAbs = 0
  · rw [h0]
    decide
  · exact (Nat.log2_lt h0).mpr (Nat.lt_of_lt_of_le h (by decide +kernel))
theorem pk_str (z : Str) : pk (.str z) = 39 :: (esc (cs z) ++ [39]) := by rw [pk]
theorem str_text (l : List Nat) : Str.ofString "'" ++ S l ++ Str.ofString "'" = S (39 :: (l ++ [39])) := by
  have e3 : Str.ofString "'" = S [39] := by decide +kernel
  rw [e3, S_app, S_app]
  rfl
theorem wf_mem {n : Nat} {ds : List PyData} (h : Wf (n + 1) (.tuple ds)) : ∀ d ∈ ds, Wf n d := h
section
variable {P : Program} {w : World} {K : PySem.W.Frag} {mg : Str → Option Value} {base : Heap}
abbrev DnIsInt (K : PySem.W.Frag) (mg : Str → Option Value) := Dn K mg "is_int" sP_is_int ["thing"]
abbrev DnIsPlain (K : PySem.W.Frag) (mg : Str → Option Value) := Dn K mg "is_plain" sP_is_plain ["thing"]
abbrev DnTextOf (K : PySem.W.Frag) (mg : Str → Option Value) := Dn K mg "_text_of" sP_text_of ["thing", "depth"]
abbrev DnPackedP (K : PySem.W.Frag) (mg : Str → Option Value) := Dn K mg "packed" sP_packed ["thing"]
abbrev DnPackedL (K : PySem.W.Frag) (mg : Str → Option Value) := Dn K mg "_law_packed" spacked ["_law_thing_here"]
/-! is_int -/
def spIsInt (K : PySem.W.Frag) : Sp := fun vs H Q _ => ∃ (v : V) (t : String) (b1 b2 : Bool), vs = [v] ∧ TyX K H v (.type t) ∧ kitB t "int" = some b1 ∧ kitB t "bool" = some b2 ∧ Q (.bl (b1 && !b2)) H
theorem ok_is_int (T : Blt mg) (d : DnIsInt K mg) : FnOk P w K mg base CX0 1 d.f d.fd ["thing"] (spIsInt K) := by
  refine d.F.ok scP_is_int (fun vs H Q E h => ?_) (fun cdv A outer s H vs Q E hr h => ?_)
  · obtain ⟨v, t, b1, b2, rfl, _⟩ := h
    rfl
  · obtain ⟨v, t, b1, b2, rfl, ty, k1, k2, q⟩ := h
    refine ⟨_, (pss_one (ps_ret (pe_and (pe_callB call_isi (by rfl) T.n_isinstance (by decide +kernel) (pa_cons (pv 0) (pa_cons (pe_bltn (v := .ty "int") (by rfl) T.n_int (by decide +kernel) rfl) pa_nil))) (pe_one (pe_not (pe_callB call_isi (by rfl) T.n_isinstance (by decide +kernel) (pa_cons (pv 0) (pa_cons (pe_bltn (v := .ty "bool") (by rfl) T.n_bool (by decide +kernel) rfl) pa_nil)))))))), ?_⟩
    refine ⟨v, rfl, v, _, _, _, b1, rfl, .ty "int", ty, kit_ty k1, b1, rfl, ?_⟩
    cases b1 with
    | false => exact iteF q
    | true => exact iteT ⟨v, rfl, v, _, _, _, b2, rfl, .ty "bool", ty, kit_ty k2, b2, rfl, q⟩
/-! is_plain -/
def spIsPlain (K : PySem.W.Frag) : Sp := fun vs H Q _ => ∃ (v : V), vs = [v] ∧ ((∃ z : Str, v = .str z ∧ z.length ≤ 1000000 ∧ ∀ H', Same H H' → Q (.bl ((cs z).all plainC)) H') ∨ (∃ t, TyX K H v (.type t) ∧ kitB t "str" = some false ∧ Q (.bl false) H))
theorem ok_is_plain (T : Blt mg) (d : DnIsPlain K mg) : FnOk P w K mg base CX0 1 d.f d.fd ["thing"] (spIsPlain K) := by
  refine d.F.ok scP_is_plain (fun vs H Q E h => ?_) (fun cdv A outer s H vs Q E hr h => ?_)
  · obtain ⟨v, rfl, _⟩ := h
    rfl
  · obtain ⟨v, rfl, h⟩ := h
    refine ⟨_, (pss_one (ps_ret (pe_and (pe_callB call_isi (by rfl) T.n_isinstance (by decide +kernel) (pa_cons (pv 0) (pa_cons (pe_bltn (v := .ty "str") (by rfl) T.n_str (by decide +kernel) rfl) pa_nil))) (pe_one (pe_callB (cr_all rfl) (by rfl) T.n_all (by decide +kernel) (pa_cons (pe_lc (own := [("sign", 1)]) (g := gName 1) (tt := tYes) rfl scP_is_plain.nd (pi_str (pv 0)) (blkOk_by (N := NP_is_plain) (sc := defScope sP_is_plain) (by decide +kernel)) (fun _ _ _ _ _ => pg_name (i := 1) scP_is_plain.nd rfl (Or.inl rfl)) (fun _ _ _ _ _ => pts_nil) (fun _ _ _ _ _ => (pe_chain op_le_str op_le_str pe_str (pv 1) pe_str))) pa_nil)))))), ?_⟩
    rcases h with ⟨z, rfl, hz, q⟩ | ⟨t, ty, k, q⟩
    · refine ⟨.str z, rfl, .str z, _, _, _, true, rfl, .ty "str", .base (.str z), kit_ty (by decide +kernel), true, rfl, iteT ?_⟩
      refine ⟨.str z, rfl, z, rfl, fun D nD => ?_⟩
      refine lc_it walk_str (fun i H3 => Same H H3 ∧ H3 D = some (.lst (((cs z).take i).map fun c => V.bl (plainC c)))) ⟨same_upd nD, upd_same⟩ (fun _ _ _ _ => trivial) (fun i x H3 H4 hi h3 y => ?_) (fun H3 h3 => ?_)
      · obtain ⟨rfl, c, hc, rfl⟩ := y
        have hc2 : (cs z)[i]? = some c := by
          rw [← hc]
          simp [cs]
        have fin : ∃ acc, H4 D = some (.lst acc) ∧ acc.length < sizeLine ∧ Same H (upd H4 D (.lst (acc ++ [V.bl (plainC c)]))) ∧ (upd H4 D (.lst (acc ++ [V.bl (plainC c)]))) D = some (.lst (((cs z).take (i + 1)).map fun c => V.bl (plainC c))) := by
          refine ⟨_, h3.2, ?_, fun b o e => ?_, ?_⟩
          · rw [List.length_map, List.length_take, sizeLine_eq]
            have := cs_len z
            omega
          · rw [upd_ne (ne_of_none e nD)]
            exact h3.1 b o e
          · rw [upd_same, List.take_add_one, hc2, List.map_append]
            rfl
        refine ⟨rfl, .str ⟨#[c]⟩, rfl, _, _, rfl, rfl, !decide (c < 32), ?_, ite2 (fun e => ?_) (fun e => ?_)⟩
        · show V.bl (!decide ([c] < (Str.ofString " ").cps.toList)) = _
          rw [show (Str.ofString " ").cps.toList = [32] by decide +kernel, lt_one]
        · refine ⟨_, _, rfl, rfl, ?_⟩
          rw [show (!decide ((Str.ofString "~").cps.toList < [c])) = plainC c by
            rw [show (Str.ofString "~").cps.toList = [126] by decide +kernel, lt_one, plainC_eq, e]
            rfl]
          exact fin
        · have e2 : plainC c = false := by
            rw [plainC_eq]
            cases h : (!decide (c < 32)) with
            | true => exact absurd h e
            | false => rfl
          rw [e2] at fin
          exact fin
      · refine ⟨D, (cs z).map plainC, rfl, sql ?_, ?_⟩
        · rw [h3.2, List.map_map]
          rw [List.take_of_length_le (by
            show (cs z).length ≤ z.cps.size
            simp [cs])]
          rfl
        · rw [show (((cs z).map plainC).all id) = (cs z).all plainC by rw [List.all_map]; rfl]
          exact q H3 h3.1
    · exact ⟨v, rfl, v, _, _, _, false, rfl, .ty "str", ty, kit_ty k, false, rfl, iteF q⟩
/-! _text_of -/
def spTextOf (n : Nat) : Sp := fun vs H Q _ => ∃ (v : V) (d : PyData) (k : Nat), vs = [v, .int (k : Int)] ∧ k + n ≤ 30 ∧ Tg H v d ∧ Wf n d ∧ (pk d).length ≤ 100000 ∧ ∀ H', Same H H' → Q (.str (S (pk d))) H'
def spTextOf' : Nat → Sp
  | 0 => fun _ _ _ _ => False
  | n + 1 => spTextOf n
def Cst (mg : Str → Option Value) (nm : Str) (v : V) : Prop := ∃ u, mg nm = some u ∧ RelV v u
theorem ok_text_of' (T : Blt mg) (cD : Cst mg "DEEPEST" (.int 30)) (dP_is_int : DnIsInt K mg) (dP_is_plain : DnIsPlain K mg) (dP_text_of : DnTextOf K mg) (n : Nat) (GP_text_of : FnOk P w K mg base CX0 (n + 1) dP_text_of.f dP_text_of.fd ["thing", "depth"] (spTextOf' n)) :
    FnOk P w K mg base CX0 (n + 2) dP_text_of.f dP_text_of.fd ["thing", "depth"] (spTextOf n) := by
  have GP_is_int : FnOk P w K mg base CX0 1 dP_is_int.f dP_is_int.fd ["thing"] (spIsInt K) := ok_is_int T dP_is_int
  have GP_is_plain : FnOk P w K mg base CX0 1 dP_is_plain.f dP_is_plain.fd ["thing"] (spIsPlain K) := ok_is_plain T dP_is_plain
  obtain ⟨uD, gDEEPEST, rDEEPEST⟩ := cD
  refine dP_text_of.F.ok scP_text_of (fun vs H Q E h => ?_) (fun cdv A outer s H vs Q E hr h => ?_)
  · obtain ⟨v, d, k, rfl, _⟩ := h
    rfl
  · obtain ⟨v, d, k, rfl, hk, tv, wv, hl, q⟩ := h
    refine ⟨_, (pss_cons (ps_if (pt_val (pe_callB call_isi (by rfl) T.n_isinstance (by decide +kernel) (pa_cons (pv 0) (pa_cons (pe_bltn (v := .ty "tuple") (by rfl) T.n_tuple (by decide +kernel) rfl) pa_nil))))
      (pss_cons (ps_if (pt_cmpR op_eq (pv 1) (pe_glob rfl gDEEPEST rDEEPEST) (nomark _))
        (pss_one ps_never)
        pss_nil)
      (pss_one (ps_ret (pe_op op_add_str (pe_op op_add_str pe_str (pe_join pe_str (pe_lc (own := [("item", 2)]) (g := gName 2) (tt := tYes) rfl scP_text_of.nd (pi_tup (pv 0)) (blkOk_by (N := NP_text_of) (sc := defScope sP_text_of) (by decide +kernel)) (fun _ _ _ _ _ => pg_name (i := 2) scP_text_of.nd rfl (Or.inl rfl)) (fun _ _ _ _ _ => pts_nil) (fun _ _ _ _ _ => (pe_call GP_text_of (hr.mono (by omega)) (by rfl) dP_text_of.g dP_text_of.F.kp dP_text_of.b .nil pass0 (pa_cons (pv 2) (pa_cons (pe_op op_add (pv 1) pe_int) pa_nil))))))) pe_str))))
      pss_nil)
    (pss_cons (ps_if (pt_cmpR op_isN (pv 0) pe_non (nomark _))
      (pss_one (ps_ret pe_str))
      pss_nil)
    (pss_cons (ps_if (PW.pt (pw_and (pt_val (pe_call GP_is_int (hr.mono (by omega)) (by rfl) dP_is_int.g dP_is_int.F.kp dP_is_int.b .nil pass0 (pa_cons (pv 0) pa_nil))) (pw_and1 (pt_cmpR op_lt (pe_callB call_abs (by rfl) T.n_abs (by decide +kernel) (pa_cons (pv 0) pa_nil)) (pe_op op_pow pe_int pe_int) (nomark _)))))
      (pss_one (ps_ret (pe_callTy call_str_int (by rfl) T.n_str (by decide +kernel) (pa_cons (pv 0) pa_nil))))
      pss_nil)
    (pss_cons (ps_if (pt_val (pe_call GP_is_plain (hr.mono (by omega)) (by rfl) dP_is_plain.g dP_is_plain.F.kp dP_is_plain.b .nil pass0 (pa_cons (pv 0) pa_nil)))
      (pss_one (ps_ret (pe_op op_add_str (pe_opC op_add_str (CwR.pet_replT (CwR.pet_replC (pv 0)))) pe_str)))
      pss_nil)
    (pss_one ps_never))))), ?_⟩
    refine ⟨v, rfl, v, _, _, _, decide (tyD d = "tuple"), rfl, .ty "tuple", tv.ty, kit_ty (kit_tup d), _, rfl, ?_⟩
    cases tv with
    | @tup a xs ds e hxl hx =>
      refine iteT ?_
      cases n with
      | zero => exact wv.elim
      | succ n =>
        refine ⟨.int (k : Int), rfl, rfl, _, rfl, ite2 (fun e => ?_) (fun _ => ?_)⟩
        · have e2 : V.int (k : Int) = V.int 30 := of_decide_eq_true e
          have e3 := V.int.inj e2
          omega
        · refine ⟨⟨_, rfl⟩, .ref a, rfl, a, rfl, ⟨xs, .inl (.inl e)⟩, fun D nD => ?_⟩
          refine lc_it walk_tup (fun i H3 => Same H H3 ∧ H3 D = some (.lst (((ds.map pk).take i).map fun l => V.str (S l)))) ⟨same_upd nD, upd_same⟩ (fun i H3 _ h3 => .inl (.inl (h3.1 _ _ e))) (fun i x H3 H4 hi h3 y => ?_) (fun H3 h3 => ?_)
          · obtain ⟨rfl, hx1⟩ := y
            have hi2 : i < ds.length := by omega
            have hd1 : ds[i]? = some ds[i] := List.getElem?_eq_getElem hi2
            refine ⟨rfl, x, rfl, .int (k : Int), rfl, _, _, rfl, rfl, x, ds[i], k + 1, rfl, by omega, (hx i x _ hx1 hd1).same h3.1, wf_mem wv _ (List.getElem_mem hi2), Nat.le_trans (pk_mem_len (List.getElem_mem hi2)) hl, fun H5 s5 => ?_⟩
            refine ⟨_, s5 _ _ h3.2, ?_, fun b o e => ?_, ?_⟩
            · rw [List.length_map, List.length_take, List.length_map]
              refine Nat.lt_of_le_of_lt (Nat.min_le_left _ _) ?_
              have h1 := commas_len (ds.map pk)
              have h2 := pk_tup_len ds
              rw [sizeLine_eq]
              split at h1
              · rename_i hz
                have := congrArg List.length hz
                rw [List.length_map] at this
                rw [this] at hi2
                cases hi2
              · rw [List.length_map] at h1
                omega
            · rw [upd_ne (ne_of_none e nD)]
              exact s5 b o (h3.1 b o e)
            · rw [upd_same, List.take_add_one, List.getElem?_map, hd1, List.map_append]
              rfl
          · refine ⟨_, D, (ds.map pk).map S, rfl, rfl, .inl (sql ?_), Nat.le_trans (join_fits hl) (by decide), _, _, rfl, rfl, ?_, _, _, rfl, rfl, ?_, ?_⟩
            · rw [h3.2, List.map_map, List.take_of_length_le (by rw [List.length_map]; omega)]
              rfl
            · rw [join_txt, S_len, sizeLine_eq, show (Str.ofString "(").length = 1 by decide +kernel]
              have := pk_tup_len ds
              omega
            · rw [join_txt, sizeLine_eq, show Str.ofString "(" = S [40] by decide +kernel, S_app, S_len, show (Str.ofString ")").length = 1 by decide +kernel]
              have := pk_tup_len ds
              simp only [List.length_append, List.length_cons, List.length_nil]
              omega
            · rw [tup_text]
              exact q H3 h3.1
    | non =>
      refine iteF ⟨.non, rfl, rfl, _, rfl, ite2 (fun _ => ?_) (fun e => (e (by simp)).elim)⟩
      have e1 : Str.ofString "." = S (pk .none) := by
        rw [pk]
        decide +kernel
      exact Eq.mp (congrArg (fun z => Q (.str z) H) e1.symm) (q H (Same.refl H))
    | int i =>
      refine iteF ⟨.int i, rfl, rfl, _, rfl, ite2 (fun e => (by simp at e)) (fun _ => ?_)⟩
      refine ⟨.int i, rfl, .int i, "int", true, false, rfl, .base (.int i), by decide +kernel, by decide +kernel, true, rfl, iteT ⟨.int i, rfl, i, rfl, _, _, rfl, rfl, ⟨by decide, by decide, by decide⟩, _, _, rfl, rfl, _, rfl, ite2 (fun _ => ?_) (fun e => ?_)⟩⟩
      · refine ⟨.int i, rfl, i, rfl, ?_, ?_⟩
        · exact int_bits (wf_int wv)
        · have e1 : (Str.ofString (toString i)) = S (pk (.int i)) := by rw [pk, dg, S_cs]
          exact Eq.mp (congrArg (fun z => Q (.str z) H) e1.symm) (q H (Same.refl H))
      · refine (e (decide_eq_true ?_)).elim
        have h := wf_int wv
        have e : ((10 : Int) ^ (30 : Int).toNat) = 1000000000000000000000000000000 := by decide +kernel
        show (if i < 0 then -i else i) < (10 : Int) ^ (30 : Int).toNat
        rw [e]
        split <;> omega
    | str z =>
      have hz := cs_len z
      have hp := pk_str z
      rw [hp, List.length_cons, List.length_append] at hl
      have he : (cs z).length ≤ (esc (cs z)).length := by
        clear hl hp hz wv q
        induction cs z with
        | nil => exact Nat.zero_le _
        | cons c r ih =>
          rw [esc_cons]
          split <;> simp only [List.length_cons] <;> omega
      refine iteF ⟨.str z, rfl, rfl, _, rfl, ite2 (fun e => (by simp at e)) (fun _ => ?_)⟩
      refine ⟨.str z, rfl, .str z, "str", false, false, rfl, .base (.str z), by decide +kernel, by decide +kernel, false, rfl, iteF ?_⟩
      refine ⟨.str z, rfl, .str z, rfl, .inl ⟨z, rfl, by omega, fun H1 s1 => ⟨_, rfl, ?_⟩⟩⟩
      rw [wf_str wv]
      refine iteT ⟨.str z, rfl, z, rfl, ?_, _, rfl, ?_, _, _, rfl, rfl, ?_, _, _, rfl, rfl, ?_, ?_⟩
      · rw [show (Str.ofString "~~").length = 2 by decide +kernel]
        omega
      · rw [show (Str.ofString "~'").length = 2 by decide +kernel]
        have := TK.replace_len z (Str.ofString "~") (Str.ofString "~~")
        rw [show (Str.ofString "~~").length = 2 by decide +kernel] at this
        omega
      · rw [repl_str, S_len, sizeLine_eq, show (Str.ofString "'").length = 1 by decide +kernel]
        omega
      · rw [repl_str, sizeLine_eq, show Str.ofString "'" = S [39] by decide +kernel, S_app, S_len, S_len]
        simp only [List.length_append, List.length_cons, List.length_nil]
        omega
      · rw [repl_str, str_text, ← pk_str]
        exact q H1 s1
theorem ok_text_of (T : Blt mg) (cD : Cst mg "DEEPEST" (.int 30)) (dP_is_int : DnIsInt K mg) (dP_is_plain : DnIsPlain K mg) (dP_text_of : DnTextOf K mg) : ∀ n : Nat, FnOk P w K mg base CX0 (n + 2) dP_text_of.f dP_text_of.fd ["thing", "depth"] (spTextOf n)
  | 0 => ok_text_of' T cD dP_is_int dP_is_plain dP_text_of 0 (ok_no dP_text_of scP_text_of)
  | n + 1 => ok_text_of' T cD dP_is_int dP_is_plain dP_text_of (n + 1) (ok_text_of T cD dP_is_int dP_is_plain dP_text_of n)
/-! packed -/
def spPackedP : Sp := fun vs H Q _ => ∃ (v : V) (d : PyData), vs = [v] ∧ Tg H v d ∧ Wf 30 d ∧ (pk d).length ≤ 100000 ∧ ∀ H', Same H H' → Q (.str (S (pk d))) H'
theorem ok_packedP (T : Blt mg) (cD : Cst mg "DEEPEST" (.int 30)) (dP_is_int : DnIsInt K mg) (dP_is_plain : DnIsPlain K mg) (dP_text_of : DnTextOf K mg) (d : DnPackedP K mg) : FnOk P w K mg base CX0 33 d.f d.fd ["thing"] spPackedP := by
  have GP_text_of : FnOk P w K mg base CX0 32 dP_text_of.f dP_text_of.fd ["thing", "depth"] (spTextOf 30) := ok_text_of T cD dP_is_int dP_is_plain dP_text_of 30
  refine d.F.ok scP_packed (fun vs H Q E h => ?_) (fun cdv A outer s H vs Q E hr h => ?_)
  · obtain ⟨v, d, rfl, _⟩ := h
    rfl
  · obtain ⟨v, d, rfl, tv, wv, hl, q⟩ := h
    refine ⟨_, (pss_one (ps_ret (pe_call GP_text_of (hr.mono (by omega)) (by rfl) dP_text_of.g dP_text_of.F.kp dP_text_of.b .nil pass0 (pa_cons (pv 0) (pa_cons pe_int pa_nil))))), ?_⟩
    exact ⟨v, rfl, v, d, 0, rfl, by decide, tv, wv, hl, q⟩
/-! _law_packed -/
def spPk (n : Nat) : Sp := fun vs H Q _ => ∃ (v : V) (d : PyData), vs = [v] ∧ Tg H v d ∧ Wf n d ∧ (pk d).length ≤ 100000 ∧ ∀ H', Same H H' → Q (.str (S (pk d))) H'
def spPk' : Nat → Sp
  | 0 => fun _ _ _ _ => False
  | n + 1 => spPk n
def piece (c : Nat) : List Nat := if c = 39 ∨ c = 126 then [126, c] else [c]
theorem esc_pieces : ∀ l : List Nat, (l.map piece).flatten = esc l
  | [] => rfl
  | c :: r => by
    rw [List.map_cons, List.flatten_cons, esc_pieces r, esc_cons, piece]
    split <;> rfl
theorem join_pieces (l : List Nat) : Txt.join (Str.ofString "") ((l.map piece).map S) = S (esc l) := by
  rw [show Str.ofString "" = S [] by decide +kernel, show Txt.join (S []) ((l.map piece).map S) = Str.join (S []) ((l.map piece).map S) from PySem.StrLaws.glued_eq_join _ _, join0, List.map_map]
  have e : cs ∘ S = id := by
    funext l
    exact cs_S l
  rw [e, List.map_id, esc_pieces]
theorem pieces_len : ∀ l : List Nat, (((l.map piece).map S).map (·.length)).sum = (esc l).length
  | [] => rfl
  | c :: r => by
    rw [List.map_cons, List.map_cons, List.map_cons, List.sum_cons, pieces_len r, S_len, ← esc_pieces, ← esc_pieces, List.map_cons, List.flatten_cons, List.length_append]
theorem ok_packedL' (T : Blt mg) (dpacked : DnPackedL K mg) (n : Nat) (Gpacked : FnOk P w K mg base CX0 (n + 1) dpacked.f dpacked.fd ["_law_thing_here"] (spPk' n)) :
    FnOk P w K mg base CX0 (n + 2) dpacked.f dpacked.fd ["_law_thing_here"] (spPk n) := by
  refine dpacked.F.ok scpacked (fun vs H Q E h => ?_) (fun cdv A outer s H vs Q E hr h => ?_)
  · obtain ⟨v, d, rfl, _⟩ := h
    rfl
  · obtain ⟨v, d, rfl, tv, wv, hl, q⟩ := h
    refine ⟨_, (pss_cons (ps_if (pt_cmpR op_isN (pv 0) pe_non (nomark _))
      (pss_one (ps_ret pe_str))
      pss_nil)
    (pss_cons (ps_if (pt_val (pe_callB call_isi (by rfl) T.n_isinstance (by decide +kernel) (pa_cons (pv 0) (pa_cons (pe_bltn (v := .ty "tuple") (by rfl) T.n_tuple (by decide +kernel) rfl) pa_nil))))
      (pss_one (ps_ret (pe_op op_add_str (pe_op op_add_str pe_str (pe_join pe_str (pe_lc (own := [("_law_one", 1)]) (g := gName 1) (tt := tYes) rfl scpacked.nd (pi_tup (pv 0)) (blkOk_by (N := Npacked) (sc := defScope spacked) (by decide +kernel)) (fun _ _ _ _ _ => pg_name (i := 1) scpacked.nd rfl (Or.inl rfl)) (fun _ _ _ _ _ => pts_nil) (fun _ _ _ _ _ => (pe_call Gpacked (hr.mono (by omega)) (by rfl) dpacked.g dpacked.F.kp dpacked.b .nil pass0 (pa_cons (pv 1) pa_nil)))))) pe_str)))
      pss_nil)
    (pss_cons (ps_if (pt_val (pe_callB call_isi (by rfl) T.n_isinstance (by decide +kernel) (pa_cons (pv 0) (pa_cons (pe_bltn (v := .ty "str") (by rfl) T.n_str (by decide +kernel) rfl) pa_nil))))
      (pss_one (ps_ret (pe_op op_add_str (pe_op op_add_str pe_str (pe_join pe_str (pe_lc (own := [("_law_sign", 2)]) (g := gName 2) (tt := tYes) rfl scpacked.nd (pi_str (pv 0)) (blkOk_by (N := Npacked) (sc := defScope spacked) (by decide +kernel)) (fun _ _ _ _ _ => pg_name (i := 2) scpacked.nd rfl (Or.inl rfl)) (fun _ _ _ _ _ => pts_nil) (fun _ _ _ _ _ => (pe_ifExp (pt_cmpR op_in_sign (pv 2) pe_str rfl) (pe_op op_add_str pe_str (pv 2)) (pv 2)))))) pe_str)))
      pss_nil)
    (pss_one (ps_ret (pe_callTy call_str_int (by rfl) T.n_str (by decide +kernel) (pa_cons (pv 0) pa_nil))))))), ?_⟩
    refine ⟨v, rfl, rfl, _, rfl, ?_⟩
    cases tv with
    | non =>
      refine ite2 (fun _ => ?_) (fun e => (e (by simp)).elim)
      have e1 : Str.ofString "." = S (pk .none) := by
        rw [pk]
        decide +kernel
      exact Eq.mp (congrArg (fun z => Q (.str z) H) e1.symm) (q H (Same.refl H))
    | @tup a xs ds e hxl hx =>
      refine ite2 (fun e => (by simp at e)) (fun _ => ?_)
      refine ⟨.ref a, rfl, .ref a, _, _, _, true, rfl, .ty "tuple", .base (.tup e), kit_ty (by decide +kernel), true, rfl, iteT ?_⟩
      cases n with
      | zero => exact wv.elim
      | succ n =>
        refine ⟨⟨_, rfl⟩, .ref a, rfl, a, rfl, ⟨xs, .inl (.inl e)⟩, fun D nD => ?_⟩
        refine lc_it walk_tup (fun i H3 => Same H H3 ∧ H3 D = some (.lst (((ds.map pk).take i).map fun l => V.str (S l)))) ⟨same_upd nD, upd_same⟩ (fun i H3 _ h3 => .inl (.inl (h3.1 _ _ e))) (fun i x H3 H4 hi h3 y => ?_) (fun H3 h3 => ?_)
        · obtain ⟨rfl, hx1⟩ := y
          have hi2 : i < ds.length := by omega
          have hd1 : ds[i]? = some ds[i] := List.getElem?_eq_getElem hi2
          refine ⟨rfl, x, rfl, x, ds[i], rfl, (hx i x _ hx1 hd1).same h3.1, wf_mem wv _ (List.getElem_mem hi2), Nat.le_trans (pk_mem_len (List.getElem_mem hi2)) hl, fun H5 s5 => ?_⟩
          refine ⟨_, s5 _ _ h3.2, ?_, fun b o e => ?_, ?_⟩
          · rw [List.length_map, List.length_take, List.length_map]
            refine Nat.lt_of_le_of_lt (Nat.min_le_left _ _) ?_
            have h1 := commas_len (ds.map pk)
            have h2 := pk_tup_len ds
            rw [sizeLine_eq]
            split at h1
            · rename_i hz
              have := congrArg List.length hz
              rw [List.length_map] at this
              rw [this] at hi2
              cases hi2
            · rw [List.length_map] at h1
              omega
          · rw [upd_ne (ne_of_none e nD)]
            exact s5 b o (h3.1 b o e)
          · rw [upd_same, List.take_add_one, List.getElem?_map, hd1, List.map_append]
            rfl
        · refine ⟨_, D, (ds.map pk).map S, rfl, rfl, .inl (sql ?_), Nat.le_trans (join_fits hl) (by decide), _, _, rfl, rfl, ?_, _, _, rfl, rfl, ?_, ?_⟩
          · rw [h3.2, List.map_map, List.take_of_length_le (by rw [List.length_map]; omega)]
            rfl
          · rw [join_txt, S_len, sizeLine_eq, show (Str.ofString "(").length = 1 by decide +kernel]
            have := pk_tup_len ds
            omega
          · rw [join_txt, sizeLine_eq, show Str.ofString "(" = S [40] by decide +kernel, S_app, S_len, show (Str.ofString ")").length = 1 by decide +kernel]
            have := pk_tup_len ds
            simp only [List.length_append, List.length_cons, List.length_nil]
            omega
          · rw [tup_text]
            exact q H3 h3.1
    | int i =>
      refine ite2 (fun e => (by simp at e)) (fun _ => ?_)
      refine ⟨.int i, rfl, .int i, _, _, _, false, rfl, .ty "tuple", .base (.int i), kit_ty (by decide +kernel), false, rfl, iteF ?_⟩
      refine ⟨.int i, rfl, .int i, _, _, _, false, rfl, .ty "str", .base (.int i), kit_ty (by decide +kernel), false, rfl, iteF ?_⟩
      refine ⟨.int i, rfl, i, rfl, int_bits (wf_int wv), ?_⟩
      have e1 : (Str.ofString (toString i)) = S (pk (.int i)) := by rw [pk, dg, S_cs]
      exact Eq.mp (congrArg (fun z => Q (.str z) H) e1.symm) (q H (Same.refl H))
    | str z =>
      have hz := cs_len z
      have hp := pk_str z
      rw [hp, List.length_cons, List.length_append] at hl
      refine ite2 (fun e => (by simp at e)) (fun _ => ?_)
      refine ⟨.str z, rfl, .str z, _, _, _, false, rfl, .ty "tuple", .base (.str z), kit_ty (by decide +kernel), false, rfl, iteF ?_⟩
      refine ⟨.str z, rfl, .str z, _, _, _, true, rfl, .ty "str", .base (.str z), kit_ty (by decide +kernel), true, rfl, iteT ?_⟩
      refine ⟨⟨_, rfl⟩, .str z, rfl, z, rfl, fun D nD => ?_⟩
      refine lc_it walk_str (fun i H3 => Same H H3 ∧ H3 D = some (.lst ((((cs z).take i).map piece).map fun l => V.str (S l)))) ⟨same_upd nD, upd_same⟩ (fun _ _ _ _ => trivial) (fun i x H3 H4 hi h3 y => ?_) (fun H3 h3 => ?_)
      · obtain ⟨rfl, c, hc, rfl⟩ := y
        have hc2 : (cs z)[i]? = some c := by
          rw [← hc]
          simp [cs]
        have fin : ∃ acc, H4 D = some (.lst acc) ∧ acc.length < sizeLine ∧ Same H (upd H4 D (.lst (acc ++ [V.str (S (piece c))]))) ∧ (upd H4 D (.lst (acc ++ [V.str (S (piece c))]))) D = some (.lst ((((cs z).take (i + 1)).map piece).map fun l => V.str (S l))) := by
          refine ⟨_, h3.2, ?_, fun b o e => ?_, ?_⟩
          · rw [List.length_map, List.length_map, List.length_take, sizeLine_eq]
            have : (cs z).length ≤ (esc (cs z)).length := by
              clear hl hp hz wv q hc2
              induction cs z with
              | nil => exact Nat.zero_le _
              | cons c r ih =>
                rw [esc_cons]
                split <;> simp only [List.length_cons] <;> omega
            omega
          · rw [upd_ne (ne_of_none e nD)]
            exact h3.1 b o e
          · rw [upd_same, List.take_add_one, hc2, List.map_append, List.map_append]
            rfl
        have e1 : (Str.ofString "'~").cps.toList = [39, 126] := by decide +kernel
        refine ⟨rfl, .str ⟨#[c]⟩, rfl, c, _, rfl, rfl, _, rfl, ite2 (fun e => ?_) (fun e => ?_)⟩
        · have e2 : c = 39 ∨ c = 126 := by
            have := of_decide_eq_true e
            rw [e1] at this
            simpa using this
          refine ⟨.str ⟨#[c]⟩, rfl, _, _, rfl, rfl, (by decide +kernel : (Str.ofString "~").length + 1 ≤ sizeLine), ?_⟩
          rw [show Str.ofString "~" ++ (⟨#[c]⟩ : Str) = S (piece c) by
            rw [piece, if_pos e2, show Str.ofString "~" = S [126] by decide +kernel, S_one, S_app]
            rfl]
          exact fin
        · have e2 : ¬ (c = 39 ∨ c = 126) := fun h => e (decide_eq_true (by rw [e1]; simpa using h))
          refine ⟨.str ⟨#[c]⟩, rfl, ?_⟩
          rw [show (⟨#[c]⟩ : Str) = S (piece c) by rw [piece, if_neg e2]; rfl]
          exact fin
      · refine ⟨_, D, ((cs z).map piece).map S, rfl, rfl, .inl (sql ?_), ?_, _, _, rfl, rfl, ?_, _, _, rfl, rfl, ?_, ?_⟩
        · rw [h3.2, List.take_of_length_le (by
            show (cs z).length ≤ z.cps.size
            simp [cs]), List.map_map, List.map_map, List.map_map]
          rfl
        · rw [pieces_len, show (Str.ofString "").length = 0 by decide +kernel]
          omega
        · rw [join_pieces, S_len, sizeLine_eq, show (Str.ofString "'").length = 1 by decide +kernel]
          omega
        · rw [join_pieces, sizeLine_eq, show Str.ofString "'" = S [39] by decide +kernel, S_app, S_len, S_len]
          simp only [List.length_append, List.length_cons, List.length_nil]
          omega
        · rw [join_pieces, str_text, ← pk_str]
          exact q H3 h3.1
theorem ok_packedL (T : Blt mg) (dpacked : DnPackedL K mg) : ∀ n : Nat, FnOk P w K mg base CX0 (n + 2) dpacked.f dpacked.fd ["_law_thing_here"] (spPk n)
  | 0 => ok_packedL' T dpacked 0 (ok_no dpacked scpacked)
  | n + 1 => ok_packedL' T dpacked (n + 1) (ok_packedL T dpacked n)
end
end Kb

namespace Kb
open PySem PySem.Spec PyProof.Rows L2
open PySem.NumText (digitsVal AllDigits)
/-! reading, as mathematics -/
def rdS : List Nat → List Nat → Option (List Nat) × List Nat
  | [], _ => (none, [])
  | [c], acc => if c = 39 then (some acc, []) else if c = 126 then (none, []) else if plainC c = true then (none, []) else (none, [c])
  | c :: d :: r, acc => if c = 39 then (some acc, d :: r) else if c = 126 then (if d = 39 ∨ d = 126 then rdS r (acc ++ [d]) else (none, d :: r)) else if plainC c = true then rdS (d :: r) (acc ++ [c]) else (none, c :: d :: r)
def isDig (c : Nat) : Bool := 48 ≤ c && c ≤ 57
def takeD : Nat → List Nat → List Nat
  | 0, _ => []
  | _ + 1, [] => []
  | n + 1, c :: r => if isDig c = true then c :: takeD n r else []
def sgn (neg : Bool) (n : Nat) : Int := if neg then -((n : Nat) : Int) else ((n : Nat) : Int)
def rdN (neg : Bool) : List Nat → Option Int × List Nat
  | [] => (none, [])
  | d :: t => if d = 48 then (if neg then (none, d :: t) else (some 0, t))
    else if 49 ≤ d ∧ d ≤ 57 then (some (sgn neg (digitsVal (takeD 30 (d :: t)))), (d :: t).drop (takeD 30 (d :: t)).length) else (none, d :: t)
def rdI : List Nat → Option Int × List Nat
  | [] => (none, [])
  | c :: r => if c = 45 then rdN true r else rdN false (c :: r)
theorem rdN_cons (neg : Bool) (d : Nat) (t : List Nat) : rdN neg (d :: t) = if d = 48 then (if neg then (none, d :: t) else (some 0, t))
    else if 49 ≤ d ∧ d ≤ 57 then (some (sgn neg (digitsVal (takeD 30 (d :: t)))), (d :: t).drop (takeD 30 (d :: t)).length) else (none, d :: t) := rfl
theorem rdI_cons (c : Nat) (r : List Nat) : rdI (c :: r) = if c = 45 then rdN true r else rdN false (c :: r) := rfl
inductive Md
  | one (k : Nat)
  | many (k : Nat) (acc : List PyData)
inductive Rd : Md → List Nat → Option PyData → List Nat → Prop
  | eof (k : Nat) : Rd (.one k) [] none []
  | dot (k : Nat) (r : List Nat) : Rd (.one k) (46 :: r) (some .none) r
  | str (k : Nat) (r : List Nat) : Rd (.one k) (39 :: r) ((rdS r []).1.map fun l => .str (S l)) (rdS r []).2
  | deep (k : Nat) (r : List Nat) : 30 ≤ k → Rd (.one k) (40 :: r) none (40 :: r)
  | tup0 (k : Nat) (r : List Nat) : k < 30 → Rd (.one k) (40 :: 41 :: r) (some (.tuple [])) r
  | tup (k : Nat) (r : List Nat) (o : Option PyData) (r' : List Nat) : k < 30 → r.head? ≠ some 41 → Rd (.many (k + 1) []) r o r' → Rd (.one k) (40 :: r) o r'
  | int (k : Nat) (c : Nat) (r : List Nat) : c ≠ 46 → c ≠ 39 → c ≠ 40 → Rd (.one k) (c :: r) ((rdI (c :: r)).1.map .int) (rdI (c :: r)).2
  | bad (k : Nat) (acc : List PyData) (l r : List Nat) : Rd (.one k) l none r → Rd (.many k acc) l none r
  | close (k : Nat) (acc : List PyData) (l r : List Nat) (d : PyData) : Rd (.one k) l (some d) (41 :: r) → Rd (.many k acc) l (some (.tuple (acc ++ [d]))) r
  | next (k : Nat) (acc : List PyData) (l r : List Nat) (d : PyData) (o : Option PyData) (r' : List Nat) : Rd (.one k) l (some d) (44 :: r) → Rd (.many k (acc ++ [d])) r o r' → Rd (.many k acc) l o r'
  | stop (k : Nat) (acc : List PyData) (l r : List Nat) (d : PyData) : Rd (.one k) l (some d) r → r.head? ≠ some 41 → r.head? ≠ some 44 → Rd (.many k acc) l none r
theorem Rd.det {m : Md} {l : List Nat} {o : Option PyData} {r : List Nat} (h : Rd m l o r) : ∀ {o' : Option PyData} {r' : List Nat}, Rd m l o' r' → o = o' ∧ r = r' := by
  induction h with
  | eof k => intro o' r' h; cases h; exact ⟨rfl, rfl⟩
  | dot k r =>
    intro o' r' h
    cases h with
    | dot => exact ⟨rfl, rfl⟩
    | int _ _ _ h1 h2 h3 => exact absurd rfl h1
  | str k r =>
    intro o' r' h
    generalize e1 : (rdS r []).1.map (fun l => PyData.str (S l)) = a at h
    cases h with
    | str => exact ⟨e1.symm ▸ rfl, rfl⟩
    | int _ _ _ h1 h2 h3 => exact absurd rfl h2
  | deep k r hk =>
    intro o' r' h
    cases h with
    | deep => exact ⟨rfl, rfl⟩
    | tup0 _ _ h1 => omega
    | tup _ _ _ _ h1 => omega
    | int _ _ _ h1 h2 h3 => exact absurd rfl h3
  | tup0 k r hk =>
    intro o' r' h
    cases h with
    | deep _ _ h1 => omega
    | tup0 => exact ⟨rfl, rfl⟩
    | tup _ _ _ _ h1 h2 => exact absurd rfl h2
    | int _ _ _ h1 h2 h3 => exact absurd rfl h3
  | tup k r o1 r1 hk hh _ ih =>
    intro o' r' h
    cases h with
    | deep _ _ h1 => omega
    | tup0 => exact absurd rfl hh
    | tup _ _ _ _ _ _ h3 => exact ih h3
    | int _ _ _ h1 h2 h3 => exact absurd rfl h3
  | int k c r h1 h2 h3 =>
    intro o' r' h
    cases h with
    | dot => exact absurd rfl h1
    | str => exact absurd rfl h2
    | deep => exact absurd rfl h3
    | tup0 => exact absurd rfl h3
    | tup => exact absurd rfl h3
    | int => exact ⟨rfl, rfl⟩
  | bad k acc l r _ ih =>
    intro o' r' h
    cases h with
    | bad _ _ _ _ h1 => exact ⟨rfl, (ih h1).2⟩
    | close _ _ _ _ _ h1 => cases (ih h1).1
    | next _ _ _ _ _ _ _ h1 => cases (ih h1).1
    | stop _ _ _ _ _ h1 => cases (ih h1).1
  | close k acc l r d _ ih =>
    intro o' r' h
    cases h with
    | bad _ _ _ _ h1 => cases (ih h1).1
    | close _ _ _ _ _ h1 =>
      obtain ⟨e1, e2⟩ := ih h1
      cases e1
      cases e2
      exact ⟨rfl, rfl⟩
    | next _ _ _ _ _ _ _ h1 => cases (ih h1).2
    | stop _ _ _ _ _ h1 h2 =>
      have e := (ih h1).2
      rw [← e] at h2
      exact absurd rfl h2
  | next k acc l r d o1 r1 _ _ ih ih2 =>
    intro o' r' h
    cases h with
    | bad _ _ _ _ h1 => cases (ih h1).1
    | close _ _ _ _ _ h1 => cases (ih h1).2
    | next _ _ _ _ _ _ _ h1 h2 =>
      obtain ⟨e1, e2⟩ := ih h1
      cases e1
      cases e2
      exact ih2 h2
    | stop _ _ _ _ _ h1 h2 h3 =>
      have e := (ih h1).2
      rw [← e] at h3
      exact absurd rfl h3
  | stop k acc l r d _ h41 h44 ih =>
    intro o' r' h
    cases h with
    | bad _ _ _ _ h1 => cases (ih h1).1
    | close _ _ _ _ _ h1 =>
      have e := (ih h1).2
      rw [e] at h41
      exact absurd rfl h41
    | next _ _ _ _ _ _ _ h1 =>
      have e := (ih h1).2
      rw [e] at h44
      exact absurd rfl h44
    | stop _ _ _ _ _ h1 => exact ⟨rfl, (ih h1).2⟩
/-! the pile -/
def After (k : Nat) (acc : List PyData) (d : PyData) (r1 : List Nat) (o : Option PyData) (r : List Nat) : Prop :=
  (r1 = 41 :: r ∧ o = some (.tuple (acc ++ [d]))) ∨ (∃ r2, r1 = 44 :: r2 ∧ Rd (.many k (acc ++ [d])) r2 o r) ∨ (r1.head? ≠ some 41 ∧ r1.head? ≠ some 44 ∧ o = none ∧ r = r1)
theorem many_of {k : Nat} {acc : List PyData} {l r1 r : List Nat} {d : PyData} {o : Option PyData} (h : Rd (.one k) l (some d) r1) (a : After k acc d r1 o r) : Rd (.many k acc) l o r := by
  rcases a with ⟨rfl, rfl⟩ | ⟨r2, rfl, h2⟩ | ⟨h1, h2, rfl, rfl⟩
  · exact .close _ _ _ _ _ h
  · exact .next _ _ _ _ _ _ _ h h2
  · exact .stop _ _ _ _ _ h h1 h2
def SemL : List (List PyData) → PyData → List Nat → Option PyData → List Nat → Prop
  | [], d, r1, o, r => o = some d ∧ r = r1
  | acc :: st, d, r1, o, r => (∃ d2 r2, After (st.length + 1) acc d r1 (some d2) r2 ∧ SemL st d2 r2 o r) ∨ (After (st.length + 1) acc d r1 none r ∧ o = none)
def SemK (st : List (List PyData)) (l : List Nat) (o : Option PyData) (r : List Nat) : Prop := match st with
  | [] => Rd (.one 0) l o r
  | acc :: st => (∃ d2 r2, Rd (.many (st.length + 1) acc) l (some d2) r2 ∧ SemL st d2 r2 o r) ∨ (Rd (.many (st.length + 1) acc) l none r ∧ o = none)
theorem K_one {st : List (List PyData)} {l r1 r : List Nat} {d : PyData} {o : Option PyData} (h : Rd (.one st.length) l (some d) r1) (s : SemL st d r1 o r) : SemK st l o r := by
  cases st with
  | nil =>
    obtain ⟨rfl, rfl⟩ := s
    exact h
  | cons acc st =>
    rcases s with ⟨d2, r2, a, s⟩ | ⟨a, e⟩
    · exact .inl ⟨d2, r2, many_of h a, s⟩
    · exact .inr ⟨many_of h a, e⟩
theorem K_bad {st : List (List PyData)} {l r : List Nat} (h : Rd (.one st.length) l none r) : SemK st l none r := by
  cases st with
  | nil => exact h
  | cons acc st => exact .inr ⟨.bad _ _ _ _ h, rfl⟩
theorem K_open {st : List (List PyData)} {l r : List Nat} {o : Option PyData} (h1 : st.length < 30) (h2 : l.head? ≠ some 41) (h : SemK ([] :: st) l o r) : SemK st (40 :: l) o r := by
  rcases h with ⟨d2, r2, m, s⟩ | ⟨m, rfl⟩
  · exact K_one (.tup _ _ _ _ h1 h2 m) s
  · exact K_bad (.tup _ _ _ _ h1 h2 m)
/-- behind an item that stands at the end of the innermost -/
def SemE (cur : List PyData) (st : List (List PyData)) (l : List Nat) (o : Option PyData) (r : List Nat) : Prop :=
  (∃ r2, l = 41 :: r2 ∧ SemL st (.tuple cur) r2 o r) ∨ (∃ r2, l = 44 :: r2 ∧ SemK (cur :: st) r2 o r) ∨ (l.head? ≠ some 41 ∧ l.head? ≠ some 44 ∧ o = none ∧ r = l)
theorem L_app {acc : List PyData} {st : List (List PyData)} {d : PyData} {l r : List Nat} {o : Option PyData} (h : SemE (acc ++ [d]) st l o r) : SemL (acc :: st) d l o r := by
  rcases h with ⟨r2, rfl, s⟩ | ⟨r2, rfl, s⟩ | ⟨h1, h2, rfl, rfl⟩
  · exact .inl ⟨_, r2, .inl ⟨rfl, rfl⟩, s⟩
  · rcases s with ⟨d2, r3, m, s⟩ | ⟨m, rfl⟩
    · exact .inl ⟨d2, r3, .inr (.inl ⟨r2, rfl, m⟩), s⟩
    · exact .inr ⟨.inr (.inl ⟨r2, rfl, m⟩), rfl⟩
  · exact .inr ⟨.inr (.inr ⟨h1, h2, rfl, rfl⟩), rfl⟩
end Kb

namespace Kb
open PySem PySem.Spec PyProof.Rows L2
open PySem.NumText (digitsVal AllDigits)
abbrev sread_string : Stmt := topS 36
abbrev Nread_string : List Str := ["_law_text", "_law_at", "_law_found", "_law_sign"]
theorem scread_string : FnScope ["_law_text", "_law_at", "_law_found", "_law_sign"] ["_law_text", "_law_at"] (defScope sread_string) := ⟨rfl, rfl, rfl, by decide +kernel, rfl, by decide +kernel, by decide +kernel⟩
abbrev sread_integer : Stmt := topS 37
abbrev Nread_integer : List Str := ["_law_text", "_law_at", "_law_begin", "_law_first"]
theorem scread_integer : FnScope ["_law_text", "_law_at", "_law_begin", "_law_first"] ["_law_text", "_law_at"] (defScope sread_integer) := ⟨rfl, rfl, rfl, by decide +kernel, rfl, by decide +kernel, by decide +kernel⟩
/-! signs -/
theorem sg_t {c k : Nat} {s : Str} (hk : s = S [k]) (e : decide (V.str ⟨#[c]⟩ = V.str s) = true) : c = k := by
  have h := of_decide_eq_true e
  injection h with h
  rw [hk] at h
  have := congrArg cs h
  rw [cs_S] at this
  exact List.head_eq_of_cons_eq this
theorem sg_f {c k : Nat} {s : Str} (hk : s = S [k]) (e : ¬ decide (V.str ⟨#[c]⟩ = V.str s) = true) : c ≠ k := fun z => e (decide_eq_true (by rw [hk, z]; rfl))
theorem q39 : Str.ofString "'" = S [39] := by decide +kernel
theorem q126 : Str.ofString "~" = S [126] := by decide +kernel
theorem q46 : Str.ofString "." = S [46] := by decide +kernel
theorem q40 : Str.ofString "(" = S [40] := by decide +kernel
theorem q41 : Str.ofString ")" = S [41] := by decide +kernel
theorem q44 : Str.ofString "," = S [44] := by decide +kernel
theorem q45 : Str.ofString "-" = S [45] := by decide +kernel
theorem q48 : Str.ofString "0" = S [48] := by decide +kernel
theorem q32 : Str.ofString " " = S [32] := by decide +kernel
theorem drop_at {l : List Nat} {p : Nat} (h : p < l.length) : l.drop p = l[p] :: l.drop (p + 1) := List.drop_eq_getElem_cons h
theorem rdS_quote (r acc : List Nat) : rdS (39 :: r) acc = (some acc, r) := by cases r <;> rfl
theorem rdS_esc {d : Nat} (r acc : List Nat) (h : d = 39 ∨ d = 126) : rdS (126 :: d :: r) acc = rdS r (acc ++ [d]) := by
  rw [rdS, if_neg (by decide), if_pos rfl, if_pos h]
theorem rdS_esc0 (acc : List Nat) : rdS [126] acc = (none, []) := rfl
theorem rdS_escX {d : Nat} (r acc : List Nat) (h : ¬ (d = 39 ∨ d = 126)) : rdS (126 :: d :: r) acc = (none, d :: r) := by
  rw [rdS, if_neg (by decide), if_pos rfl, if_neg h]
theorem rdS_plain {c : Nat} (r acc : List Nat) (h1 : c ≠ 39) (h2 : c ≠ 126) (h3 : plainC c = true) : rdS (c :: r) acc = rdS r (acc ++ [c]) := by
  cases r <;> simp [rdS, h1, h2, h3]
theorem rdS_bad {c : Nat} (r acc : List Nat) (h1 : c ≠ 39) (h2 : c ≠ 126) (h3 : plainC c ≠ true) : rdS (c :: r) acc = (none, c :: r) := by
  cases r <;> simp [rdS, h1, h2, h3]
abbrev rLeS : R2 := fun x y H Q => ∃ i j, x = .str i ∧ y = .str j ∧ Q (.bl (!decide (j.cps.toList < i.cps.toList))) H
/-- ' ' <= sign <= '~' -/
theorem rd_plain {σ : L2.St} {H : Hp} {n c : Nat} {Q : Bool → Hp → Prop} (h0 : σ[n]? = some (some (.str ⟨#[c]⟩))) (q : Q (plainC c) H) :
    tTest (tChain rLeS rLeS (tC (.str (Str.ofString " "))) (tVar n) (tC (.str (Str.ofString "~")))) σ H Q := by
  refine ⟨.str ⟨#[c]⟩, h0, _, _, rfl, rfl, !decide (c < 32), ?_, ?_⟩
  · show V.bl (!decide ([c] < (Str.ofString " ").cps.toList)) = _
    rw [show (Str.ofString " ").cps.toList = [32] by decide +kernel, lt_one]
  · rw [plainC_eq] at q
    cases h : (!decide (c < 32)) with
    | true =>
      rw [h] at q
      refine iteT ⟨_, _, rfl, rfl, !decide (126 < c), ?_, q⟩
      show V.bl (!decide ((Str.ofString "~").cps.toList < [c])) = _
      rw [show (Str.ofString "~").cps.toList = [126] by decide +kernel, lt_one]
    | false =>
      rw [h] at q
      exact iteF ⟨_, rfl, q⟩
section
variable {P : Program} {w : World} {K : PySem.W.Frag} {mg : Str → Option Value} {base : Heap}
abbrev DnReadString (K : PySem.W.Frag) (mg : Str → Option Value) := Dn K mg "_law_read_string" sread_string ["_law_text", "_law_at"]
def vS (o : Option (List Nat)) : V := match o with
  | some l => .str (S l)
  | none => .non
def spReadString : Sp := fun vs H Q _ => ∃ (z : Str) (p : Nat), vs = [.str z, .int (p : Int)] ∧ p ≤ (cs z).length ∧ (cs z).length ≤ 1000000 ∧
  ∀ H' t (o : Option (List Nat)) (i : Nat), Same H H' → i ≤ (cs z).length → rdS ((cs z).drop p) [] = (o, (cs z).drop i) → H' t = some (.tup [vS o, .int (i : Int), .bl o.isNone]) → Q (.ref t) H'
theorem ok_read_string (T : Blt mg) (d : DnReadString K mg) : FnOk P w K mg base CX0 1 d.f d.fd ["_law_text", "_law_at"] spReadString := by
  refine d.F.ok scread_string (fun vs H Q E h => ?_) (fun cdv A outer s H vs Q E hr h => ?_)
  · obtain ⟨z, p, rfl, _⟩ := h
    rfl
  · obtain ⟨z, p, rfl, hp, hz, q⟩ := h
    have hl : z.length ≤ sizeLine := by rw [sizeLine_eq, ← cs_len]; omega
    refine ⟨_, (pss_cons (ps_set (i := 2) scread_string.nd rfl (Or.inl rfl) pe_str)
    (pss_cons (ps_while PassesOwn.never (pt_cmpR op_lt (pv 1) (pe_callB call_len_str (by rfl) T.n_len (by decide +kernel) (pa_cons (pv 0) pa_nil)) (nomark _))
      (pss_cons (ps_set (i := 3) scread_string.nd rfl (Or.inl rfl) (pe_ix ix_str (pv 0) (pv 1) (fun _ _ => rfl)))
      (pss_cons (ps_if (pt_cmpR op_eq (pv 3) pe_str (nomark _))
        (pss_one (ps_ret (pe_tup (pa_cons (pv 2) (pa_cons (pe_op op_add (pv 1) pe_int) (pa_cons pe_bl pa_nil))))))
        pss_nil)
      (pss_cons (ps_if (pt_not (pt_chain op_le_str op_le_str pe_str (pv 3) pe_str))
        (pss_one (ps_ret (pe_tup (pa_cons pe_non (pa_cons (pv 1) (pa_cons pe_bl pa_nil))))))
        pss_nil)
      (C8.pss_cut (ps_if (pt_cmpR op_eq (pv 3) pe_str (nomark _))
        (pss_cons (ps_set (i := 1) scread_string.nd rfl (Or.inl rfl) (pe_op op_add (pv 1) pe_int))
        (pss_cons (ps_if (PW.pt (pw_or (pt_cmpR op_eq (pv 1) (pe_callB call_len_str (by rfl) T.n_len (by decide +kernel) (pa_cons (pv 0) pa_nil)) (nomark _)) (pw_or1 (pt_cmpR op_notIn_sign (pe_ix ix_str (pv 0) (pv 1) (fun _ _ => rfl)) pe_str rfl))))
          (pss_one (ps_ret (pe_tup (pa_cons pe_non (pa_cons (pv 1) (pa_cons pe_bl pa_nil))))))
          pss_nil)
        (pss_one (ps_set (i := 3) scread_string.nd rfl (Or.inl rfl) (pe_ix ix_str (pv 0) (pv 1) (fun _ _ => rfl))))))
        pss_nil)
      (pss_cons (ps_set (i := 2) scread_string.nd rfl (Or.inl rfl) (pe_op op_add_str (pv 2) (pv 3)))
      (pss_one (ps_set (i := 1) scread_string.nd rfl (Or.inl rfl) (pe_op op_add (pv 1) pe_int)))))))))
    (pss_one (ps_ret (pe_tup (pa_cons pe_non (pa_cons (pv 1) (pa_cons pe_bl pa_nil)))))))), ?_⟩
    have hlz := cs_len z
    refine ⟨fun m σ H' => ∃ (i : Nat) (fd : List Nat) (y : Option V), σ = [some (.str z), some (.int (i : Int)), some (.str (S fd)), y] ∧ H = H' ∧ i ≤ (cs z).length ∧ m = (cs z).length - i ∧ rdS ((cs z).drop i) fd = rdS ((cs z).drop p) [] ∧ fd.length ≤ i,
      ⟨_, p, [], none, ?_, rfl, hp, rfl, rfl, Nat.zero_le _⟩, ?_⟩
    · rw [show S [] = Str.ofString "" by decide +kernel]
      rfl
    · rintro m σ H' ⟨i, fd, y, rfl, eH, hi, rfl, hrd, hfd⟩
      subst eH
      refine ⟨.int (i : Int), rfl, .str z, rfl, _, rfl, hl, _, _, rfl, rfl, _, rfl, ite2 (fun e => ?_) (fun e => ?_)⟩
      · have hi2 : i < (cs z).length := by
          have := of_decide_eq_true e
          omega
        have ed := drop_at hi2
        have ec : (cs z)[i]? = some (cs z)[i] := List.getElem?_eq_getElem hi2
        generalize hc : (cs z)[i] = c at ed ec
        refine ⟨fun σ' H' => ∃ m', m' < (cs z).length - i ∧ ∃ (i : Nat) (fd : List Nat) (y : Option V), σ' = [some (.str z), some (.int (i : Int)), some (.str (S fd)), y] ∧ H = H' ∧ i ≤ (cs z).length ∧ m' = (cs z).length - i ∧ rdS ((cs z).drop i) fd = rdS ((cs z).drop p) [] ∧ fd.length ≤ i, fun _ _ h => h, ?_⟩
        -- sign = text[at]
        refine ⟨.str z, rfl, .int (i : Int), rfl, z, _, c, rfl, rfl, hl, atI_nat ec, ?_⟩
        refine ⟨.str ⟨#[c]⟩, rfl, rfl, _, rfl, ite2 (fun e => ?_) (fun e1 => ?_)⟩
        · have e2 := sg_t q39 e
          refine ⟨.str (S fd), rfl, .int (i : Int), rfl, _, _, rfl, rfl, (by decide : 3 ≤ sizeLine), fun t nt => ?_⟩
          refine q _ t (some fd) (i + 1) (same_upd nt) hi2 ?_ upd_same
          rw [← hrd, ed, e2, rdS_quote]
        · have n39 := sg_f q39 e1
          refine rd_plain rfl ?_
          cases hp1 : plainC c with
          | false =>
            refine iteT ⟨.int (i : Int), rfl, (by decide : 3 ≤ sizeLine), fun t nt => ?_⟩
            have n126 : c ≠ 126 := fun z => by rw [z] at hp1; exact absurd hp1 (by decide)
            refine q _ t none i (same_upd nt) hi ?_ upd_same
            rw [← hrd, ed, rdS_bad _ _ n39 n126 (by rw [hp1]; decide)]
          | true =>
            refine iteF ?_
            -- the ~
            refine ⟨fun σ' H' => ∃ (i' : Nat) (c' : Nat), σ' = [some (.str z), some (.int (i' : Int)), some (.str (S fd)), some (.str ⟨#[c']⟩)] ∧ H = H' ∧ i ≤ i' ∧ i' < (cs z).length ∧ rdS ((cs z).drop (i' + 1)) (fd ++ [c']) = rdS ((cs z).drop p) [], ?_, ?_⟩
            · refine ⟨.str ⟨#[c]⟩, rfl, rfl, _, rfl, ite2 (fun e => ?_) (fun e2 => ?_)⟩
              · have e2 := sg_t q126 e
                refine ⟨.int (i : Int), rfl, _, _, rfl, rfl, ?_⟩
                refine ⟨.int ((i : Int) + 1), rfl, .str z, rfl, _, rfl, hl, rfl, _, rfl, ite2 (fun e => ?_) (fun e3 => ?_)⟩
                · have e4 : (i : Int) + 1 = (z.length : Int) := V.int.inj (of_decide_eq_true e)
                  refine iteT ⟨.int ((i : Int) + 1), rfl, (by decide : 3 ≤ sizeLine), fun t nt => ?_⟩
                  refine q _ t none (i + 1) (same_upd nt) hi2 ?_ upd_same
                  rw [← hrd, ed, e2, List.drop_eq_nil_of_le (by omega), rdS_esc0]
                · have hi3 : i + 1 < (cs z).length := by
                    have : ¬ ((i : Int) + 1 = (z.length : Int)) := fun h => e3 (decide_eq_true (by rw [h]))
                    omega
                  have ed2 := drop_at hi3
                  have ec2 : (cs z)[i + 1]? = some (cs z)[i + 1] := List.getElem?_eq_getElem hi3
                  generalize hc2 : (cs z)[i + 1] = c2 at ed2 ec2
                  have q2 : (Str.ofString "'~").cps.toList = [39, 126] := by decide +kernel
                  refine ⟨.str z, rfl, .int ((i : Int) + 1), rfl, z, _, c2, rfl, rfl, hl, atI_nat (j := i + 1) ec2, c2, _, rfl, rfl, _, rfl, ?_⟩
                  by_cases h2 : c2 = 39 ∨ c2 = 126
                  · have e5 : (!decide (c2 ∈ (Str.ofString "'~").cps.toList)) = false := by
                      rw [q2, decide_eq_true (by simpa using h2)]
                      rfl
                    rw [e5]
                    refine iteF ⟨.str z, rfl, .int ((i : Int) + 1), rfl, z, _, c2, rfl, rfl, hl, atI_nat (j := i + 1) ec2, ?_⟩
                    refine ⟨i + 1, c2, rfl, rfl, by omega, hi3, ?_⟩
                    rw [← hrd, ed, e2, ed2, rdS_esc _ _ h2]
                  · have e5 : (!decide (c2 ∈ (Str.ofString "'~").cps.toList)) = true := by
                      rw [q2, decide_eq_false (by simpa using h2)]
                      rfl
                    rw [e5]
                    refine iteT ⟨.int ((i : Int) + 1), rfl, (by decide : 3 ≤ sizeLine), fun t nt => ?_⟩
                    refine q _ t none (i + 1) (same_upd nt) hi2 ?_ upd_same
                    rw [← hrd, ed, e2, ed2, rdS_escX _ _ h2]
              · have n126 := sg_f q126 e2
                refine ⟨i, c, rfl, rfl, Nat.le_refl _, hi2, ?_⟩
                rw [← hrd, ed, rdS_plain _ _ n39 n126 hp1]
            · rintro σ' H' ⟨i', c', rfl, eH, hii, hi', hrd'⟩
              subst eH
              refine ⟨.str (S fd), rfl, .str ⟨#[c']⟩, rfl, _, _, rfl, rfl, ?_, .int (i' : Int), rfl, _, _, rfl, rfl, ?_⟩
              · rw [S_len, sizeLine_eq]
                show fd.length + 1 ≤ _
                omega
              · refine ⟨(cs z).length - (i' + 1), by omega, i' + 1, fd ++ [c'], some (.str ⟨#[c']⟩), ?_, rfl, hi', rfl, hrd', ?_⟩
                · rw [S_one, S_app]
                  rfl
                · rw [List.length_append]
                  show fd.length + 1 ≤ _
                  omega
      · have e2 : i = (cs z).length := by
          have : ¬ ((i : Int) < (z.length : Int)) := fun h => e (decide_eq_true h)
          omega
        refine ⟨.int (i : Int), rfl, (by decide : 3 ≤ sizeLine), fun t nt => ?_⟩
        refine q _ t none i (same_upd nt) hi ?_ upd_same
        rw [← hrd, List.drop_eq_nil_of_le (by omega), rdS]
end
end Kb

namespace Kb
open PySem PySem.Spec PyProof.Rows L2
open PySem.NumText (digitsVal AllDigits)
theorem takeD_len : ∀ (n : Nat) (l : List Nat), (takeD n l).length ≤ n ∧ (takeD n l).length ≤ l.length
  | 0, l => ⟨Nat.le_refl _, Nat.zero_le _⟩
  | n + 1, [] => ⟨Nat.zero_le _, Nat.le_refl _⟩
  | n + 1, c :: r => by
    have ih := takeD_len n r
    rw [takeD]
    split
    · simp only [List.length_cons]
      omega
    · exact ⟨Nat.zero_le _, Nat.zero_le _⟩
theorem takeD_take : ∀ (n : Nat) (l : List Nat), l.take (takeD n l).length = takeD n l
  | 0, l => rfl
  | n + 1, [] => rfl
  | n + 1, c :: r => by
    rw [takeD]
    split
    · rw [List.length_cons, List.take_succ_cons, takeD_take n r]
    · rfl
theorem takeD_dig : ∀ (n : Nat) (l : List Nat), ∀ c ∈ takeD n l, isDig c = true
  | 0, l => by intro c h; cases h
  | n + 1, [] => by intro c h; cases h
  | n + 1, c :: r => by
    intro d h
    rw [takeD] at h
    split at h
    · rcases List.mem_cons.mp h with h | h
      · rw [h]
        assumption
      · exact takeD_dig n r d h
    · cases h
theorem takeD_stop : ∀ (n : Nat) (l : List Nat), (takeD n l).length < n → ∀ c, l[(takeD n l).length]? = some c → isDig c = false
  | 0, l, h, _, _ => by cases h
  | n + 1, [], _, c, h => by simp at h
  | n + 1, d :: r, h, c, h2 => by
    rw [takeD] at h h2
    split at h
    · rename_i hd
      rw [if_pos hd] at h2
      exact takeD_stop n r (by simpa using h) c (by simpa using h2)
    · rename_i hd
      rw [if_neg hd] at h2
      have : d = c := by simpa using h2
      rw [← this]
      simpa using hd
theorem takeD_get {n : Nat} {l : List Nat} {j : Nat} (h : j < (takeD n l).length) : ∃ c, l[j]? = some c ∧ isDig c = true := by
  have e := takeD_take n l
  refine ⟨(takeD n l)[j], ?_, takeD_dig n l _ (List.getElem_mem h)⟩
  have h3 : (l.take (takeD n l).length)[j]? = l[j]? := List.getElem?_take_of_lt h
  rw [e] at h3
  rw [← h3]
  exact List.getElem?_eq_getElem h
theorem dig_mem (c : Nat) : decide (c ∈ (Str.ofString "0123456789").cps.toList) = isDig c := by
  rw [show (Str.ofString "0123456789").cps.toList = [48, 49, 50, 51, 52, 53, 54, 55, 56, 57] by decide +kernel]
  unfold isDig
  by_cases h : 48 ≤ c ∧ c ≤ 57
  · have h2 : c ∈ [48, 49, 50, 51, 52, 53, 54, 55, 56, 57] := by
      simp only [List.mem_cons, List.not_mem_nil, or_false]
      omega
    rw [decide_eq_true h2, decide_eq_true h.1, decide_eq_true h.2]
    rfl
  · have h2 : ¬ c ∈ [48, 49, 50, 51, 52, 53, 54, 55, 56, 57] := by
      simp only [List.mem_cons, List.not_mem_nil, or_false]
      omega
    rw [decide_eq_false h2]
    by_cases h3 : 48 ≤ c
    · have h4 : ¬ c ≤ 57 := fun z => h ⟨h3, z⟩
      rw [decide_eq_false h4, Bool.and_false]
    · rw [decide_eq_false h3, Bool.false_and]
theorem isDig_iff {c : Nat} : isDig c = true ↔ 48 ≤ c ∧ c ≤ 57 := by
  unfold isDig
  simp
theorem all_digits {n : Nat} {l : List Nat} : AllDigits (takeD n l) := fun c hc => isDig_iff.mp (takeD_dig n l c hc)
/-- the sign ahead: neg, and what follows -/
def Ahead (neg : Bool) (l l1 : List Nat) : Prop := match neg with
  | true => l = 45 :: l1
  | false => l = l1 ∧ l1 ≠ [] ∧ l1.head? ≠ some 45
theorem rdI_ahead {neg : Bool} {l l1 : List Nat} (h : Ahead neg l l1) : rdI l = rdN neg l1 := by
  cases neg with
  | true =>
    have h : l = 45 :: l1 := h
    rw [h, rdI_cons, if_pos rfl]
  | false =>
    obtain ⟨h, h1, h2⟩ : l = l1 ∧ l1 ≠ [] ∧ l1.head? ≠ some 45 := h
    rw [h]
    cases l1 with
    | nil => exact absurd rfl h1
    | cons d t => rw [rdI_cons, if_neg (fun z => h2 (by rw [z]; rfl))]
theorem rdI_none {neg : Bool} {l l1 : List Nat} (h : Ahead neg l l1) (hD : takeD 30 l1 = []) : rdI l = (none, l1) := by
  rw [rdI_ahead h]
  cases l1 with
  | nil => rfl
  | cons d t =>
    have : ¬ (48 ≤ d ∧ d ≤ 57) := fun z => by
      rw [takeD, if_pos (isDig_iff.mpr z)] at hD
      cases hD
    rw [rdN_cons, if_neg (by omega), if_neg (by omega)]
theorem rdI_neg0 {l l1 r : List Nat} (h : Ahead true l l1) (e : l1 = 48 :: r) : rdI l = (none, l1) := by
  rw [rdI_ahead h, e, rdN_cons, if_pos rfl]
  rfl
theorem rdI_zero {l l1 r : List Nat} (h : Ahead false l l1) (e : l1 = 48 :: r) : rdI l = (some 0, r) := by
  rw [rdI_ahead h, e, rdN_cons, if_pos rfl]
  rfl
theorem rdI_val {neg : Bool} {l l1 r : List Nat} {c : Nat} (h : Ahead neg l l1) (e : l1 = c :: r) (hc : 49 ≤ c ∧ c ≤ 57) :
    rdI l = (some (sgn neg (digitsVal (takeD 30 l1))), l1.drop (takeD 30 l1).length) := by
  rw [rdI_ahead h, e, rdN_cons, if_neg (by omega), if_pos hc]
/-- the text of the number -/
theorem int_text {neg : Bool} {D : List Nat} (h : AllDigits D) (h1 : D ≠ []) (h2 : D.length ≤ 30) :
    PySem.intText? (S (if neg then 45 :: D else D)) = some (sgn neg (digitsVal D)) := by
  cases neg with
  | true => exact PySem.intText_neg (by simp [S]) h h1 (by rw [S_len]; simp only [if_true, List.length_cons]; omega)
  | false =>
    have e := PySem.intText_digits (x := S D) (by simpa [S] using h) (by simpa [S] using h1) (by rw [S_len]; omega)
    simpa [S, sgn] using e
/-- a slice within -/
theorem cut_in {z : Str} {a b : Nat} (h1 : a ≤ b) (h2 : b ≤ (cs z).length) : cutS z (some (a : Int)) (some (b : Int)) = S (((cs z).drop a).take (b - a)) := by
  have hz := cs_len z
  unfold cutS
  rw [show HT.sIx z.length 0 (some (a : Int)) = min a z.length from HT.sIx_nat _ _ _, show HT.sIx z.length z.length (some (b : Int)) = min b z.length from HT.sIx_nat _ _ _, Nat.min_eq_left (by omega), Nat.min_eq_left (by omega)]
  rfl
section
variable {P : Program} {w : World} {K : PySem.W.Frag} {mg : Str → Option Value} {base : Heap}
abbrev DnReadInteger (K : PySem.W.Frag) (mg : Str → Option Value) := Dn K mg "_law_read_integer" sread_integer ["_law_text", "_law_at"]
def vI (o : Option Int) : V := match o with
  | some i => .int i
  | none => .non
def spReadInteger : Sp := fun vs H Q _ => ∃ (z : Str) (p : Nat), vs = [.str z, .int (p : Int)] ∧ p < (cs z).length ∧ (cs z).length ≤ 1000000 ∧
  ∀ H' t (o : Option Int) (i : Nat), Same H H' → i ≤ (cs z).length → rdI ((cs z).drop p) = (o, (cs z).drop i) → H' t = some (.tup [vI o, .int (i : Int), .bl o.isNone]) → Q (.ref t) H'
theorem ok_read_integer (T : Blt mg) (d : DnReadInteger K mg) : FnOk P w K mg base CX0 1 d.f d.fd ["_law_text", "_law_at"] spReadInteger := by
  refine d.F.ok scread_integer (fun vs H Q E h => ?_) (fun cdv A outer s H vs Q E hr h => ?_)
  · obtain ⟨z, p, rfl, _⟩ := h
    rfl
  · obtain ⟨z, p, rfl, hp, hz, q⟩ := h
    have hlz := cs_len z
    have hl : z.length ≤ sizeLine := by rw [sizeLine_eq, ← cs_len]; omega
    refine ⟨_, (pss_cons (ps_set (i := 2) scread_integer.nd rfl (Or.inl rfl) (pv 1))
    (C8.pss_cut (ps_if (pt_cmpR op_eq (pe_ix ix_str (pv 0) (pv 1) (fun _ _ => rfl)) pe_str (nomark _))
      (pss_one (ps_set (i := 1) scread_integer.nd rfl (Or.inl rfl) (pe_op op_add (pv 1) pe_int)))
      pss_nil)
    (pss_cons (ps_set (i := 3) scread_integer.nd rfl (Or.inl rfl) (pv 1))
    (C8.pss_cut (ps_while PassesOwn.never (PW.pt (pw_and (pt_cmpR op_lt (pv 1) (pe_callB call_len_str (by rfl) T.n_len (by decide +kernel) (pa_cons (pv 0) pa_nil)) (nomark _)) (pw_and (pt_cmpR op_in_sign (pe_ix ix_str (pv 0) (pv 1) (fun _ _ => rfl)) pe_str rfl) (pw_and1 (pt_cmpR op_lt (pe_op op_sub (pv 1) (pv 3)) pe_int (nomark _))))))
      (C8.pss_cut (ps_if (PW.pt (pw_and (pt_cmpR op_eq (pv 1) (pe_op op_add (pv 3) pe_int) (nomark _)) (pw_and1 (pt_cmpR op_eq (pe_ix ix_str (pv 0) (pv 3) (fun _ _ => rfl)) pe_str (nomark _)))))
        (pss_one (ps_ret (pe_tup (pa_cons (pe_callTy call_int_str (by rfl) T.n_int (by decide +kernel) (pa_cons (pe_slice sl_str (pv 0) (po_some (pv 2)) (po_some (pv 1))) pa_nil)) (pa_cons (pv 1) (pa_cons pe_bl pa_nil))))))
        pss_nil)
      (C8.pss_cut (ps_if (PW.pt (pw_and (pt_cmpR op_eq (pv 1) (pv 3) (nomark _)) (pw_and (pt_cmpR op_eq (pe_ix ix_str (pv 0) (pv 1) (fun _ _ => rfl)) pe_str (nomark _)) (pw_and1 (pt_cmpR op_lt (pv 2) (pv 3) (nomark _))))))
        (pss_one (ps_ret (pe_tup (pa_cons pe_non (pa_cons (pv 1) (pa_cons pe_bl pa_nil))))))
        pss_nil)
      (pss_one (ps_set (i := 1) scread_integer.nd rfl (Or.inl rfl) (pe_op op_add (pv 1) pe_int))))))
    (pss_cons (ps_if (pt_cmpR op_eq (pv 1) (pv 3) (nomark _))
      (pss_one (ps_ret (pe_tup (pa_cons pe_non (pa_cons (pv 1) (pa_cons pe_bl pa_nil))))))
      pss_nil)
    (pss_one (ps_ret (pe_tup (pa_cons (pe_callTy call_int_str (by rfl) T.n_int (by decide +kernel) (pa_cons (pe_slice sl_str (pv 0) (po_some (pv 2)) (po_some (pv 1))) pa_nil)) (pa_cons (pv 1) (pa_cons pe_bl pa_nil))))))))))), ?_⟩
    have edp := drop_at hp
    have ecp : (cs z)[p]? = some (cs z)[p] := List.getElem?_eq_getElem hp
    generalize hc : (cs z)[p] = c at edp ecp
    refine ⟨.int (p : Int), rfl, ?_⟩
    refine ⟨fun σ H' => ∃ (neg : Bool) (f : Nat), σ = [some (.str z), some (.int (f : Int)), some (.int (p : Int)), none] ∧ H = H' ∧ f = p + (if neg then 1 else 0) ∧ Ahead neg ((cs z).drop p) ((cs z).drop f), ?_, ?_⟩
    · refine ⟨.str z, rfl, .int (p : Int), rfl, z, _, c, rfl, rfl, hl, atI_nat ecp, rfl, _, rfl, ite2 (fun e => ?_) (fun e => ?_)⟩
      · have e2 := sg_t q45 e
        refine ⟨.int (p : Int), rfl, _, _, rfl, rfl, true, p + 1, rfl, rfl, rfl, ?_⟩
        show (cs z).drop p = 45 :: _
        rw [edp, e2]
      · have n45 := sg_f q45 e
        refine ⟨false, p, rfl, rfl, rfl, rfl, ?_, ?_⟩
        · rw [edp]
          simp
        · rw [edp]
          simpa using n45
    · rintro σ H' ⟨neg, f, rfl, eH, hf, hA⟩
      subst eH
      have hfl : f ≤ (cs z).length := by split at hf <;> omega
      refine ⟨.int (f : Int), rfl, ?_⟩
      generalize hl1 : (cs z).drop f = l1 at hA
      have hl1l : l1.length = (cs z).length - f := by rw [← hl1, List.length_drop]
      have get1 : ∀ j, l1[j]? = (cs z)[f + j]? := fun j => by rw [← hl1, List.getElem?_drop]
      have drop1 : ∀ j, l1.drop j = (cs z).drop (f + j) := fun j => by rw [← hl1, List.drop_drop]
      have hD := takeD_len 30 l1
      have hT := takeD_take 30 l1
      -- the number's text
      have txt : ∀ j, j ≤ (takeD 30 l1).length → cutS z (some (p : Int)) (some ((f + j : Nat) : Int)) = S (if neg then 45 :: (takeD 30 l1).take j else (takeD 30 l1).take j) := fun j hj => by
        have ht : l1.take j = (takeD 30 l1).take j := by
          rw [← hT, List.take_take, Nat.min_eq_left hj]
        rw [cut_in (by split at hf <;> omega) (by omega)]
        cases neg with
        | true =>
          have hA : (cs z).drop p = 45 :: l1 := hA
          have hf : f = p + 1 := hf
          rw [hA, show f + j - p = j + 1 by omega, List.take_succ_cons, ht]
          rfl
        | false =>
          have hf : f = p := hf
          rw [hA.1, show f + j - p = j by omega, ht]
          rfl
      refine ⟨fun σ H' => σ = [some (.str z), some (.int ((f + (takeD 30 l1).length : Nat) : Int)), some (.int (p : Int)), some (.int (f : Int))] ∧ H = H' ∧ (takeD 30 l1 ≠ [] → l1.head? = some 48 → neg = false ∧ (takeD 30 l1).length = 1), ?_, ?_⟩
      · refine ⟨fun m σ H' => ∃ j : Nat, σ = [some (.str z), some (.int ((f + j : Nat) : Int)), some (.int (p : Int)), some (.int (f : Int))] ∧ H = H' ∧ j ≤ (takeD 30 l1).length ∧ m = (takeD 30 l1).length - j ∧ (1 ≤ j → l1.head? = some 48 → neg = false ∧ j = 1), ⟨_, 0, rfl, rfl, Nat.zero_le _, rfl, by omega⟩, ?_⟩
        rintro m σ H' ⟨j, rfl, eH, hj, rfl, h48⟩
        subst eH
        have fin : j = (takeD 30 l1).length → [some (V.str z), some (.int ((f + j : Nat) : Int)), some (.int (p : Int)), some (.int (f : Int))] = [some (V.str z), some (.int ((f + (takeD 30 l1).length : Nat) : Int)), some (.int (p : Int)), some (.int (f : Int))] ∧ H = H ∧ (takeD 30 l1 ≠ [] → l1.head? = some 48 → neg = false ∧ (takeD 30 l1).length = 1) := fun e => by
          rw [← e]
          refine ⟨rfl, rfl, fun h1 h2 => h48 ?_ h2⟩
          rw [e]
          exact List.length_pos_iff.mpr h1
        refine ⟨.int ((f + j : Nat) : Int), rfl, .str z, rfl, _, rfl, hl, _, _, rfl, rfl, _, rfl, ite2 (fun e1 => ?_) (fun e1 => iteF (fin ?_))⟩
        · have hjl : f + j < (cs z).length := by
            have := of_decide_eq_true e1
            omega
          have ej : (cs z)[f + j]? = some (cs z)[f + j] := List.getElem?_eq_getElem hjl
          generalize hcj : (cs z)[f + j] = cj at ej
          have ej1 : l1[j]? = some cj := by rw [get1, ej]
          refine ⟨.str z, rfl, .int ((f + j : Nat) : Int), rfl, z, _, cj, rfl, rfl, hl, atI_nat ej, cj, _, rfl, rfl, _, rfl, ite2 (fun e2 => ?_) (fun e2 => iteF (fin ?_))⟩
          · rw [dig_mem] at e2
            refine ⟨.int ((f + j : Nat) : Int), rfl, .int (f : Int), rfl, _, _, rfl, rfl, _, _, rfl, rfl, _, rfl, ite2 (fun e3 => ?_) (fun e3 => fin ?_)⟩
            · have h30 : j < 30 := by
                have := of_decide_eq_true e3
                omega
              have hjD : j < (takeD 30 l1).length := by
                rcases Nat.lt_or_ge j (takeD 30 l1).length with h | h
                · exact h
                · have e : j = (takeD 30 l1).length := by omega
                  have := takeD_stop 30 l1 (by omega) cj (by rw [← e]; exact ej1)
                  rw [this] at e2
                  cases e2
              refine ⟨fun σ' H' => ∃ m', m' < (takeD 30 l1).length - j ∧ ∃ j : Nat, σ' = [some (.str z), some (.int ((f + j : Nat) : Int)), some (.int (p : Int)), some (.int (f : Int))] ∧ H = H' ∧ j ≤ (takeD 30 l1).length ∧ m' = (takeD 30 l1).length - j ∧ (1 ≤ j → l1.head? = some 48 → neg = false ∧ j = 1), fun _ _ h => h, ?_⟩
              -- at == first + 1 and text[first] == "0"
              have hf2 : f < (cs z).length := by omega
              have ef : (cs z)[f]? = some (cs z)[f] := List.getElem?_eq_getElem hf2
              generalize hcf : (cs z)[f] = c0 at ef
              have eh : l1.head? = some c0 := by
                have := get1 0
                rw [Nat.add_zero, ef] at this
                rw [← this, List.head?_eq_getElem?]
              refine ⟨fun σ' H' => σ' = [some (.str z), some (.int ((f + j : Nat) : Int)), some (.int (p : Int)), some (.int (f : Int))] ∧ H = H' ∧ ¬ (j = 1 ∧ c0 = 48), ?_, ?_⟩
              · refine ⟨.int ((f + j : Nat) : Int), rfl, .int (f : Int), rfl, _, _, rfl, rfl, rfl, _, rfl, ite2 (fun e4 => ?_) (fun e4 => iteF ⟨rfl, rfl, fun h => e4 (decide_eq_true ?_)⟩)⟩
                · have j1 : j = 1 := by
                    have := V.int.inj (of_decide_eq_true e4)
                    omega
                  refine ⟨.str z, rfl, .int (f : Int), rfl, z, _, c0, rfl, rfl, hl, atI_nat ef, rfl, _, rfl, ite2 (fun e5 => ?_) (fun e5 => ⟨rfl, rfl, fun h => sg_f q48 e5 h.2⟩)⟩
                  have c48 := sg_t q48 e5
                  have hn := (h48 (by omega) (by rw [eh, c48])).1
                  have hD1 : (takeD 30 l1).take 1 = [48] := by
                    rw [← hT, List.take_take, Nat.min_eq_left (by omega)]
                    cases l1 with
                    | nil => cases eh
                    | cons x r =>
                      have : x = c0 := by simpa using eh
                      rw [this, c48]
                      rfl
                  have tx := txt 1 (by omega)
                  rw [hD1, hn] at tx
                  subst j1
                  refine ⟨.str z, rfl, .int (p : Int), rfl, _, rfl, .int ((f + 1 : Nat) : Int), rfl, _, rfl, z, rfl, hl, _, 0, rfl, ?_, ?_, .int ((f + 1 : Nat) : Int), rfl, (by decide : 3 ≤ sizeLine), fun t nt => ?_⟩
                  · rw [tx]
                    exact int_text (neg := false) (D := [48]) (by intro x hx; simp at hx; omega) (by simp) (by simp)
                  · rw [tx]
                    decide +kernel
                  · refine q _ t (some 0) (f + 1) (same_upd nt) (by omega) ?_ upd_same
                    rw [hn] at hA
                    cases l1 with
                    | nil => cases eh
                    | cons x r =>
                      have : x = c0 := by simpa using eh
                      rw [rdI_zero hA (by rw [this, c48]), ← drop1 1]
                      rfl
                · rw [h.1]
                  rfl
              · rintro σ' H' ⟨rfl, eH, n1⟩
                subst eH
                refine ⟨fun σ' H' => σ' = [some (.str z), some (.int ((f + j : Nat) : Int)), some (.int (p : Int)), some (.int (f : Int))] ∧ H = H' ∧ ¬ (j = 0 ∧ c0 = 48 ∧ neg = true), ?_, ?_⟩
                · refine ⟨.int ((f + j : Nat) : Int), rfl, .int (f : Int), rfl, rfl, _, rfl, ite2 (fun e4 => ?_) (fun e4 => iteF ⟨rfl, rfl, fun h => e4 (decide_eq_true ?_)⟩)⟩
                  · have j0 : j = 0 := by
                      have := V.int.inj (of_decide_eq_true e4)
                      omega
                    have ec0 : cj = c0 := by
                      rw [j0, Nat.add_zero, ef] at ej
                      exact (Option.some.inj ej).symm
                    refine ⟨.str z, rfl, .int ((f + j : Nat) : Int), rfl, z, _, cj, rfl, rfl, hl, atI_nat ej, rfl, _, rfl, ite2 (fun e5 => ?_) (fun e5 => iteF ⟨rfl, rfl, fun h => sg_f q48 e5 (by rw [ec0]; exact h.2.1)⟩)⟩
                    have c48 := sg_t q48 e5
                    refine ⟨.int (p : Int), rfl, .int (f : Int), rfl, _, _, rfl, rfl, _, rfl, ite2 (fun e6 => ?_) (fun e6 => ⟨rfl, rfl, fun h => e6 (decide_eq_true ?_)⟩)⟩
                    · have hn : neg = true := by
                        have := of_decide_eq_true e6
                        cases neg with
                        | true => rfl
                        | false =>
                          have hf : f = p := hf
                          omega
                      refine ⟨.int ((f + j : Nat) : Int), rfl, (by decide : 3 ≤ sizeLine), fun t nt => ?_⟩
                      refine q _ t none (f + j) (same_upd nt) (by omega) ?_ upd_same
                      rw [hn] at hA
                      cases l1 with
                      | nil => cases eh
                      | cons x r =>
                        have : x = c0 := by simpa using eh
                        rw [rdI_neg0 hA (by rw [this, ← ec0, c48]), j0, Nat.add_zero, hl1]
                    · rw [h.2.2] at hf
                      have hf : f = p + 1 := hf
                      omega
                  · rw [h.1]
                    rfl
                · rintro σ' H' ⟨rfl, eH, n2⟩
                  subst eH
                  refine ⟨.int ((f + j : Nat) : Int), rfl, _, _, rfl, rfl, _, ?_, j + 1, rfl, rfl, hjD, rfl, fun _ h => ?_⟩
                  · omega
                  · have c48 : c0 = 48 := by
                      rw [eh] at h
                      exact Option.some.inj h
                    rcases Nat.eq_zero_or_pos j with j0 | j1
                    · refine ⟨?_, by omega⟩
                      cases neg with
                      | true => exact absurd ⟨j0, c48, rfl⟩ n2
                      | false => rfl
                    · exact absurd ⟨(h48 j1 h).2, c48⟩ n1
            · have : ¬ ((f + j : Nat) : Int) - (f : Int) < 30 := fun h => e3 (decide_eq_true h)
              omega
          · rw [dig_mem] at e2
            rcases Nat.lt_or_ge j (takeD 30 l1).length with h | h
            · obtain ⟨c', h1, h2⟩ := takeD_get h
              rw [ej1] at h1
              cases h1
              exact absurd h2 e2
            · omega
        · have : ¬ ((f + j : Nat) : Int) < (z.length : Int) := fun h => e1 (decide_eq_true h)
          omega
      · rintro σ' H' ⟨rfl, eH, h48⟩
        subst eH
        refine ⟨.int ((f + (takeD 30 l1).length : Nat) : Int), rfl, .int (f : Int), rfl, rfl, _, rfl, ite2 (fun e => ?_) (fun e => ?_)⟩
        · have e0 : (takeD 30 l1).length = 0 := by
            have := V.int.inj (of_decide_eq_true e)
            omega
          refine ⟨.int ((f + (takeD 30 l1).length : Nat) : Int), rfl, (by decide : 3 ≤ sizeLine), fun t nt => ?_⟩
          refine q _ t none _ (same_upd nt) (by omega) ?_ upd_same
          rw [rdI_none hA (List.length_eq_zero_iff.mp e0), e0, Nat.add_zero, hl1]
        · have e0 : takeD 30 l1 ≠ [] := fun h => e (decide_eq_true (by rw [h]; rfl))
          have tx := txt _ (Nat.le_refl _)
          rw [List.take_length] at tx
          refine ⟨.str z, rfl, .int (p : Int), rfl, _, rfl, .int ((f + (takeD 30 l1).length : Nat) : Int), rfl, _, rfl, z, rfl, hl, _, sgn neg (digitsVal (takeD 30 l1)), rfl, ?_, ?_, .int ((f + (takeD 30 l1).length : Nat) : Int), rfl, (by decide : 3 ≤ sizeLine), fun t nt => ?_⟩
          · rw [tx]
            exact int_text all_digits e0 hD.1
          · rw [tx, S_len]
            split <;> first | omega | (simp only [List.length_cons]; omega)
          · refine q _ t (some (sgn neg (digitsVal (takeD 30 l1)))) _ (same_upd nt) (by omega) ?_ upd_same
            obtain ⟨c0, h1, h2⟩ := takeD_get (List.length_pos_iff.mpr e0)
            cases hl2 : l1 with
            | nil =>
              rw [hl2] at h1
              cases h1
            | cons x r =>
              have ex : x = c0 := by
                rw [hl2] at h1
                simpa using h1
              have h3 := isDig_iff.mp h2
              rw [← hl2]
              by_cases h4 : c0 = 48
              · have hz := h48 e0 (by rw [hl2, ex, h4]; rfl)
                rw [hz.1] at hA ⊢
                have hD1 : takeD 30 l1 = [48] := by
                  have : (takeD 30 l1).take 1 = [48] := by
                    rw [← hT, List.take_take, Nat.min_eq_left (by omega), hl2, ex, h4]
                    rfl
                  rw [← this, ← hz.2, List.take_length]
                rw [rdI_zero hA (by rw [hl2, ex, h4]), hD1, ← drop1, hl2]
                rfl
              · rw [rdI_val hA hl2 (by omega), drop1]
end
end Kb

namespace Kb
open PySem PySem.Spec PyProof.Rows L2
open PySem.NumText (digitsVal AllDigits)
abbrev sfirst_wrong : Stmt := topS 35
abbrev Nfirst_wrong : List Str := ["_law_text", "_law_at", "_law_deep_here", "_law_sign"]
theorem scfirst_wrong : FnScope ["_law_text", "_law_at", "_law_deep_here", "_law_sign"] ["_law_text", "_law_at", "_law_deep_here"] (defScope sfirst_wrong) := ⟨rfl, rfl, rfl, by decide +kernel, rfl, by decide +kernel, by decide +kernel⟩
abbrev sread_tuple : Stmt := topS 38
abbrev Nread_tuple : List Str := ["_law_text", "_law_at", "_law_deep_here", "_law_found", "_law_thing_here", "_law_wrong"]
theorem scread_tuple : FnScope ["_law_text", "_law_at", "_law_deep_here", "_law_found", "_law_thing_here", "_law_wrong"] ["_law_text", "_law_at", "_law_deep_here"] (defScope sread_tuple) := ⟨rfl, rfl, rfl, by decide +kernel, rfl, by decide +kernel, by decide +kernel⟩
abbrev sunpacked : Stmt := topS 39
abbrev Nunpacked : List Str := ["_law_text", "_law_thing_here", "_law_at", "_law_wrong"]
theorem scunpacked : FnScope ["_law_text", "_law_thing_here", "_law_at", "_law_wrong"] ["_law_text"] (defScope sunpacked) := ⟨rfl, rfl, rfl, by decide +kernel, rfl, by decide +kernel, by decide +kernel⟩
theorem rdS_len : ∀ (l acc : List Nat), (rdS l acc).2.length ≤ l.length
  | [], acc => Nat.le_refl _
  | [c], acc => by
    simp only [rdS]
    split
    · exact Nat.zero_le _
    · split
      · exact Nat.zero_le _
      · split
        · exact Nat.zero_le _
        · exact Nat.le_refl _
  | c :: d :: r, acc => by
    simp only [rdS]
    split
    · exact Nat.le_succ _
    · split
      · split
        · exact Nat.le_trans (rdS_len r _) (Nat.le_trans (Nat.le_succ _) (Nat.le_succ _))
        · exact Nat.le_succ _
      · split
        · exact Nat.le_trans (rdS_len (d :: r) _) (Nat.le_succ _)
        · exact Nat.le_refl _
theorem rdN_len (neg : Bool) : ∀ l : List Nat, (rdN neg l).2.length ≤ l.length
  | [] => Nat.le_refl _
  | d :: t => by
    rw [rdN_cons]
    split
    · split
      · exact Nat.le_refl _
      · exact Nat.le_succ _
    · split
      · show ((d :: t).drop _).length ≤ _
        rw [List.length_drop]
        omega
      · exact Nat.le_refl _
theorem rdI_len : ∀ l : List Nat, (rdI l).2.length ≤ l.length
  | [] => Nat.le_refl _
  | c :: r => by
    rw [rdI_cons]
    split
    · exact Nat.le_trans (rdN_len true r) (Nat.le_succ _)
    · exact rdN_len false (c :: r)
theorem Rd.len {m : Md} {l : List Nat} {o : Option PyData} {r : List Nat} (h : Rd m l o r) : r.length ≤ l.length := by
  induction h with
  | eof k => exact Nat.le_refl _
  | dot k r => exact Nat.le_succ _
  | str k r => exact Nat.le_trans (rdS_len r []) (Nat.le_succ _)
  | deep k r hk => exact Nat.le_refl _
  | tup0 k r hk => exact Nat.le_trans (Nat.le_succ _) (Nat.le_succ _)
  | tup k r o1 r1 hk hh _ ih => exact Nat.le_trans ih (Nat.le_succ _)
  | int k c r h1 h2 h3 => exact rdI_len (c :: r)
  | bad k acc l r _ ih => exact ih
  | close k acc l r d _ ih => exact Nat.le_trans (Nat.le_succ _) ih
  | next k acc l r d o1 r1 _ _ ih ih2 => exact Nat.le_trans ih2 (Nat.le_trans (Nat.le_succ _) ih)
  | stop k acc l r d _ h41 h44 ih => exact ih
def Val3 (H : Hp) (v : V) (o : Option PyData) : Prop := match o with
  | some d => Tg H v d
  | none => v = .non
section
variable {P : Program} {w : World} {K : PySem.W.Frag} {mg : Str → Option Value} {base : Heap}
abbrev DnFirstWrong (K : PySem.W.Frag) (mg : Str → Option Value) := Dn K mg "_law_first_wrong" sfirst_wrong ["_law_text", "_law_at", "_law_deep_here"]
abbrev DnReadTuple (K : PySem.W.Frag) (mg : Str → Option Value) := Dn K mg "_law_read_tuple" sread_tuple ["_law_text", "_law_at", "_law_deep_here"]
abbrev DnUnpackedL (K : PySem.W.Frag) (mg : Str → Option Value) := Dn K mg "_law_unpacked" sunpacked ["_law_text"]
def spFW (n : Nat) : Sp := fun vs H Q _ => ∃ (z : Str) (p k : Nat), vs = [.str z, .int (p : Int), .int (k : Int)] ∧ p ≤ (cs z).length ∧ (cs z).length ≤ 1000000 ∧ 30 ≤ k + n ∧
  ∀ H' t (o : Option PyData) (i : Nat) (v : V), Same H H' → i ≤ (cs z).length → Rd (.one k) ((cs z).drop p) o ((cs z).drop i) → H' t = some (.tup [v, .int (i : Int), .bl o.isNone]) → Val3 H' v o → Q (.ref t) H'
def spRT (n : Nat) : Sp := fun vs H Q _ => ∃ (z : Str) (p k : Nat), vs = [.str z, .int (p : Int), .int ((k + 1 : Nat) : Int)] ∧ p ≤ (cs z).length ∧ (cs z).length ≤ 1000000 ∧ 30 ≤ k + 1 + n ∧ k < 30 ∧
  ∀ H' t (o : Option PyData) (i : Nat) (v : V), Same H H' → i ≤ (cs z).length → Rd (.one k) (40 :: (cs z).drop p) o ((cs z).drop i) → H' t = some (.tup [v, .int (i : Int), .bl o.isNone]) → Val3 H' v o → Q (.ref t) H'
def spRT' : Nat → Sp
  | 0 => fun _ _ _ _ => False
  | n + 1 => spRT n
theorem ok_first_wrong' (T : Blt mg) (dread_string : DnReadString K mg) (dread_integer : DnReadInteger K mg) (dread_tuple : DnReadTuple K mg) (dfirst_wrong : DnFirstWrong K mg) (n : Nat)
    (Gread_tuple : FnOk P w K mg base CX0 (2 * n + 1) dread_tuple.f dread_tuple.fd ["_law_text", "_law_at", "_law_deep_here"] (spRT' n)) : FnOk P w K mg base CX0 (2 * n + 2) dfirst_wrong.f dfirst_wrong.fd ["_law_text", "_law_at", "_law_deep_here"] (spFW n) := by
  have Gread_string : FnOk P w K mg base CX0 1 dread_string.f dread_string.fd ["_law_text", "_law_at"] spReadString := ok_read_string T dread_string
  have Gread_integer : FnOk P w K mg base CX0 1 dread_integer.f dread_integer.fd ["_law_text", "_law_at"] spReadInteger := ok_read_integer T dread_integer
  refine dfirst_wrong.F.ok scfirst_wrong (fun vs H Q E h => ?_) (fun cdv A outer s H vs Q E hr h => ?_)
  · obtain ⟨z, p, k, rfl, _⟩ := h
    rfl
  · obtain ⟨z, p, k, rfl, hp, hz, hk, q⟩ := h
    have hlz := cs_len z
    have hl : z.length ≤ sizeLine := by rw [sizeLine_eq, ← cs_len]; omega
    refine ⟨_, (pss_cons (ps_if (pt_cmpR op_ge (pv 1) (pe_callB call_len_str (by rfl) T.n_len (by decide +kernel) (pa_cons (pv 0) pa_nil)) (nomark _))
      (pss_one (ps_ret (pe_tup (pa_cons pe_non (pa_cons (pv 1) (pa_cons pe_bl pa_nil))))))
      pss_nil)
    (pss_cons (ps_set (i := 3) scfirst_wrong.nd rfl (Or.inl rfl) (pe_ix ix_str (pv 0) (pv 1) (fun _ _ => rfl)))
    (pss_cons (ps_if (pt_cmpR op_eq (pv 3) pe_str (nomark _))
      (pss_one (ps_ret (pe_tup (pa_cons pe_non (pa_cons (pe_op op_add (pv 1) pe_int) (pa_cons pe_bl pa_nil))))))
      pss_nil)
    (pss_cons (ps_if (pt_cmpR op_eq (pv 3) pe_str (nomark _))
      (pss_one (ps_ret (pe_call Gread_string (hr.mono (by omega)) (by rfl) dread_string.g dread_string.F.kp dread_string.b .nil pass0 (pa_cons (pv 0) (pa_cons (pe_op op_add (pv 1) pe_int) pa_nil)))))
      pss_nil)
    (pss_cons (ps_if (pt_cmpR op_eq (pv 3) pe_str (nomark _))
      (pss_one (ps_ret (pe_ifExp (pt_cmpR op_lt (pv 2) pe_int (nomark _)) (pe_call Gread_tuple (hr.mono (by omega)) (by rfl) dread_tuple.g dread_tuple.F.kp dread_tuple.b .nil pass0 (pa_cons (pv 0) (pa_cons (pe_op op_add (pv 1) pe_int) (pa_cons (pe_op op_add (pv 2) pe_int) pa_nil)))) (pe_tup (pa_cons pe_non (pa_cons (pv 1) (pa_cons pe_bl pa_nil)))))))
      pss_nil)
    (pss_one (ps_ret (pe_call Gread_integer (hr.mono (by omega)) (by rfl) dread_integer.g dread_integer.F.kp dread_integer.b .nil pass0 (pa_cons (pv 0) (pa_cons (pv 1) pa_nil)))))))))), ?_⟩
    refine ⟨.int (p : Int), rfl, .str z, rfl, _, rfl, hl, _, _, rfl, rfl, _, rfl, ite2 (fun e => ?_) (fun e => ?_)⟩
    · have e2 : (cs z).length ≤ p := by
        have := of_decide_eq_true e
        omega
      refine ⟨.int (p : Int), rfl, (by decide : 3 ≤ sizeLine), fun t nt => ?_⟩
      refine q _ t none p .non (same_upd nt) hp ?_ upd_same rfl
      rw [List.drop_eq_nil_of_le e2]
      exact .eof k
    · have hp2 : p < (cs z).length := by
        have : ¬ ((z.length : Int) ≤ (p : Int)) := fun h => e (decide_eq_true h)
        omega
      have ed := drop_at hp2
      have ec : (cs z)[p]? = some (cs z)[p] := List.getElem?_eq_getElem hp2
      generalize hc : (cs z)[p] = c at ed ec
      refine ⟨.str z, rfl, .int (p : Int), rfl, z, _, c, rfl, rfl, hl, atI_nat ec, ?_⟩
      refine ⟨.str ⟨#[c]⟩, rfl, rfl, _, rfl, ite2 (fun e => ?_) (fun e1 => ?_)⟩
      · have e2 := sg_t q46 e
        refine ⟨.int (p : Int), rfl, _, _, rfl, rfl, (by decide : 3 ≤ sizeLine), fun t nt => ?_⟩
        refine q _ t (some .none) (p + 1) .non (same_upd nt) hp2 ?_ upd_same .non
        rw [ed, e2]
        exact .dot k _
      · have n46 := sg_f q46 e1
        refine ⟨.str ⟨#[c]⟩, rfl, rfl, _, rfl, ite2 (fun e => ?_) (fun e2 => ?_)⟩
        · have e2 := sg_t q39 e
          refine ⟨.str z, rfl, .int (p : Int), rfl, _, _, rfl, rfl, z, p + 1, rfl, hp2, hz, fun H1 t o i s1 hi hrd et => ?_⟩
          have h := Rd.str k ((cs z).drop (p + 1))
          rw [hrd] at h
          refine q H1 t (o.map fun l => .str (S l)) i (vS o) s1 hi ?_ ?_ ?_
          · rw [ed, e2]
            exact h
          · exact et.trans (by cases o <;> rfl)
          · cases o with
            | none => rfl
            | some l => exact .str (S l)
        · have n39 := sg_f q39 e2
          refine ⟨.str ⟨#[c]⟩, rfl, rfl, _, rfl, ite2 (fun e => ?_) (fun e3 => ?_)⟩
          · have e40 := sg_t q40 e
            refine ⟨.int (k : Int), rfl, _, _, rfl, rfl, _, rfl, ite2 (fun e => ?_) (fun e => ?_)⟩
            · have k30 : k < 30 := by
                have := of_decide_eq_true e
                omega
              cases n with
              | zero => omega
              | succ n =>
                refine ⟨.str z, rfl, .int (p : Int), rfl, _, _, rfl, rfl, .int (k : Int), rfl, _, _, rfl, rfl, z, p + 1, k, rfl, hp2, hz, by omega, k30, fun H1 t o i v s1 hi hrd et hv => ?_⟩
                refine q H1 t o i v s1 hi ?_ et hv
                rw [ed, e40]
                exact hrd
            · have k30 : 30 ≤ k := by
                have : ¬ ((k : Int) < 30) := fun h => e (decide_eq_true h)
                omega
              refine ⟨.int (p : Int), rfl, (by decide : 3 ≤ sizeLine), fun t nt => ?_⟩
              refine q _ t none p .non (same_upd nt) hp ?_ upd_same rfl
              rw [ed, e40]
              exact .deep k _ k30
          · have n40 := sg_f q40 e3
            refine ⟨.str z, rfl, .int (p : Int), rfl, z, p, rfl, hp2, hz, fun H1 t o i s1 hi hrd et => ?_⟩
            have h := Rd.int k c ((cs z).drop (p + 1)) n46 n39 n40
            rw [← ed, hrd] at h
            refine q H1 t (o.map .int) i (vI o) s1 hi h ?_ ?_
            · exact et.trans (by cases o <;> rfl)
            · cases o with
              | none => rfl
              | some l => exact .int l
theorem ok_read_tuple' (T : Blt mg) (dread_tuple : DnReadTuple K mg) (dfirst_wrong : DnFirstWrong K mg) (n : Nat)
    (Gfirst_wrong : FnOk P w K mg base CX0 (2 * n + 2) dfirst_wrong.f dfirst_wrong.fd ["_law_text", "_law_at", "_law_deep_here"] (spFW n)) : FnOk P w K mg base CX0 (2 * n + 3) dread_tuple.f dread_tuple.fd ["_law_text", "_law_at", "_law_deep_here"] (spRT n) := by
  refine dread_tuple.F.ok scread_tuple (fun vs H Q E h => ?_) (fun cdv A outer s H vs Q E hr h => ?_)
  · obtain ⟨z, p, k, rfl, _⟩ := h
    rfl
  · obtain ⟨z, p, k, rfl, hp, hz, hk, k30, q⟩ := h
    have hlz := cs_len z
    have hl : z.length ≤ sizeLine := by rw [sizeLine_eq, ← cs_len]; omega
    refine ⟨_, (pss_cons (ps_set (i := 3) scread_tuple.nd rfl (Or.inl rfl) (pe_tup pa_nil))
    (C8.pss_cut (ps_if (PW.pt (pw_and (pt_cmpR op_lt (pv 1) (pe_callB call_len_str (by rfl) T.n_len (by decide +kernel) (pa_cons (pv 0) pa_nil)) (nomark _)) (pw_and1 (pt_cmpR op_eq (pe_ix ix_str (pv 0) (pv 1) (fun _ _ => rfl)) pe_str (nomark _)))))
      (pss_one (ps_ret (pe_tup (pa_cons (pe_tup pa_nil) (pa_cons (pe_op op_add (pv 1) pe_int) (pa_cons pe_bl pa_nil))))))
      pss_nil)
    (pss_one (ps_while PassesOwn.never (pt_val pe_bl)
      (pss_cons (ps_asg (pe_call Gfirst_wrong (hr.mono (by omega)) (by rfl) dfirst_wrong.g dfirst_wrong.F.kp dfirst_wrong.b .nil pass0 (pa_cons (pv 0) (pa_cons (pv 1) (pa_cons (pv 2) pa_nil)))) (pg_tup (by rfl) (pgs_cons (pg_name (i := 4) scread_tuple.nd rfl (Or.inl rfl)) (pgs_cons (pg_name (i := 1) scread_tuple.nd rfl (Or.inl rfl)) (pgs_cons (pg_name (i := 5) scread_tuple.nd rfl (Or.inl rfl)) pgs_nil)))))
      (pss_cons (ps_if (pt_val (pv 5))
        (pss_one (ps_ret (pe_tup (pa_cons pe_non (pa_cons (pv 1) (pa_cons pe_bl pa_nil))))))
        pss_nil)
      (C8.pss_cut (ps_set (i := 3) scread_tuple.nd rfl (Or.inl rfl) (pe_op op_catA (pv 3) (pe_tup (pa_cons (pv 4) pa_nil))))
      (C8.pss_cut (ps_if (PW.pt (pw_and (pt_cmpR op_lt (pv 1) (pe_callB call_len_str (by rfl) T.n_len (by decide +kernel) (pa_cons (pv 0) pa_nil)) (nomark _)) (pw_and1 (pt_cmpR op_eq (pe_ix ix_str (pv 0) (pv 1) (fun _ _ => rfl)) pe_str (nomark _)))))
        (pss_one (ps_ret (pe_tup (pa_cons (pv 3) (pa_cons (pe_op op_add (pv 1) pe_int) (pa_cons pe_bl pa_nil))))))
        pss_nil)
      (pss_cons (ps_if (PW.pt (pw_or (pt_cmpR op_eq (pv 1) (pe_callB call_len_str (by rfl) T.n_len (by decide +kernel) (pa_cons (pv 0) pa_nil)) (nomark _)) (pw_or1 (pt_cmpR op_ne (pe_ix ix_str (pv 0) (pv 1) (fun _ _ => rfl)) pe_str (nomark _)))))
        (pss_one (ps_ret (pe_tup (pa_cons pe_non (pa_cons (pv 1) (pa_cons pe_bl pa_nil))))))
        pss_nil)
      (pss_one (ps_set (i := 1) scread_tuple.nd rfl (Or.inl rfl) (pe_op op_add (pv 1) pe_int)))))))))))), ?_⟩
    refine ⟨Nat.zero_le _, fun t0 nt0 => ?_⟩
    have s0 : Same H (upd H t0 (.tup [])) := same_upd nt0
    generalize hH0 : upd H t0 (.tup []) = H0 at s0
    have et0 : H0 t0 = some (.tup []) := by rw [← hH0]; exact upd_same
    refine ⟨fun σ H' => σ = [some (.str z), some (.int (p : Int)), some (.int ((k + 1 : Nat) : Int)), some (.ref t0), none, none] ∧ H0 = H' ∧ ((cs z).drop p).head? ≠ some 41, ?_, ?_⟩
    · refine ⟨.int (p : Int), rfl, .str z, rfl, _, rfl, hl, _, _, rfl, rfl, _, rfl, ite2 (fun e1 => ?_) (fun e1 => iteF ⟨rfl, rfl, ?_⟩)⟩
      · have hp2 : p < (cs z).length := by
          have := of_decide_eq_true e1
          omega
        have ed := drop_at hp2
        have ec : (cs z)[p]? = some (cs z)[p] := List.getElem?_eq_getElem hp2
        generalize hc : (cs z)[p] = c at ed ec
        refine ⟨.str z, rfl, .int (p : Int), rfl, z, _, c, rfl, rfl, hl, atI_nat ec, rfl, _, rfl, ite2 (fun e => ?_) (fun e => ⟨rfl, rfl, ?_⟩)⟩
        · have e2 := sg_t q41 e
          refine ⟨Nat.zero_le _, fun t1 nt1 => ?_⟩
          refine ⟨.int (p : Int), rfl, _, _, rfl, rfl, (by decide : 3 ≤ sizeLine), fun t nt => ?_⟩
          refine q _ t (some (.tuple [])) (p + 1) (.ref t1) ((s0.trans (same_upd nt1)).trans (same_upd nt)) hp2 ?_ upd_same ?_
          · rw [ed, e2]
            exact .tup0 k _ k30
          · have e3 : (upd (upd H0 t1 (.tup [])) t (.tup [.ref t1, .int ((p : Int) + 1), .bl false])) t1 = some (.tup []) := same_upd nt _ _ upd_same
            exact .tup e3 rfl fun i x d h _ => by cases h
        · have n41 := sg_f q41 e
          rw [ed]
          simpa using n41
      · have : (cs z).length ≤ p := by
          have : ¬ ((p : Int) < (z.length : Int)) := fun h => e1 (decide_eq_true h)
          omega
        rw [List.drop_eq_nil_of_le this]
        simp
    · rintro σ H' ⟨rfl, eH, h41⟩
      subst eH
      -- the end of the tuple
      have fin : ∀ {o r}, Rd (.many (k + 1) []) ((cs z).drop p) o r → Rd (.one k) (40 :: (cs z).drop p) o r := fun h => .tup _ _ _ _ k30 h41 h
      refine ⟨fun m σ H' => ∃ (i : Nat) (tf : Addr) (xs : List V) (ds : List PyData) (y4 y5 : Option V), σ = [some (.str z), some (.int (i : Int)), some (.int ((k + 1 : Nat) : Int)), some (.ref tf), y4, y5] ∧ H' tf = some (.tup xs) ∧ Tgs H' xs ds ∧ Same H H' ∧ i ≤ (cs z).length ∧ m = (cs z).length - i ∧ ds.length ≤ i ∧
          (∀ o r, Rd (.many (k + 1) ds) ((cs z).drop i) o r → Rd (.many (k + 1) []) ((cs z).drop p) o r), ⟨_, p, t0, [], [], none, none, rfl, et0, ⟨rfl, fun i x d h _ => by cases h⟩, s0, hp, rfl, Nat.zero_le _, fun _ _ h => h⟩, ?_⟩
      rintro m σ H1 ⟨i, tf, xs, ds, y4, y5, rfl, etf, htg, s1, hi, rfl, hdl, hR⟩
      refine ⟨true, rfl, iteT ⟨fun σ' H' => ∃ m', m' < (cs z).length - i ∧ ∃ (i : Nat) (tf : Addr) (xs : List V) (ds : List PyData) (y4 y5 : Option V), σ' = [some (.str z), some (.int (i : Int)), some (.int ((k + 1 : Nat) : Int)), some (.ref tf), y4, y5] ∧ H' tf = some (.tup xs) ∧ Tgs H' xs ds ∧ Same H H' ∧ i ≤ (cs z).length ∧ m' = (cs z).length - i ∧ ds.length ≤ i ∧
          (∀ o r, Rd (.many (k + 1) ds) ((cs z).drop i) o r → Rd (.many (k + 1) []) ((cs z).drop p) o r), fun _ _ h => h, ?_⟩⟩
      refine ⟨.str z, rfl, .int (i : Int), rfl, .int ((k + 1 : Nat) : Int), rfl, z, i, k + 1, rfl, hi, hz, by omega, fun H2 t o j v s2 hj hrd et hv => ?_⟩
      have hij : i ≤ j := by
        have := hrd.len
        rw [List.length_drop, List.length_drop] at this
        omega
      refine ⟨t, _, rfl, .inl (.inl et), rfl, v, _, rfl, .int (j : Int), _, rfl, .bl o.isNone, _, rfl, rfl, ?_⟩
      refine ⟨.bl o.isNone, rfl, o.isNone, rfl, ?_⟩
      cases o with
      | none =>
        refine iteT ⟨.int (j : Int), rfl, (by decide : 3 ≤ sizeLine), fun t2 nt2 => ?_⟩
        exact q _ t2 none j .non ((s1.trans s2).trans (same_upd nt2)) hj (fin (hR _ _ (.bad _ _ _ _ hrd))) upd_same rfl
      | some d =>
        have hv : Tg H2 v d := hv
        refine iteF ?_
        refine ⟨fun σ H' => ∃ tf', σ = [some (.str z), some (.int (j : Int)), some (.int ((k + 1 : Nat) : Int)), some (.ref tf'), some v, some (.bl false)] ∧ H' tf' = some (.tup (xs ++ [v])) ∧ Same H2 H', ?_, ?_⟩
        · refine ⟨.ref tf, rfl, v, rfl, (by decide : 1 ≤ sizeLine), fun t2 nt2 => ?_⟩
          refine ⟨tf, t2, xs, [v], rfl, rfl, .inl (.inl (same_upd nt2 _ _ (s2 _ _ etf))), .inl (.inl upd_same), ?_, fun e => ?_, fun _ e => (by cases e), fun _ _ t3 nt3 => ?_⟩
          · rw [htg.1, sizeLine_eq]
            show ds.length + 1 ≤ _
            omega
          · refine ⟨t2, rfl, ?_, same_upd nt2⟩
            rw [e]
            exact upd_same
          · exact ⟨t3, rfl, upd_same, (same_upd nt2).trans (same_upd nt3)⟩
        · rintro σ H3 ⟨tf', rfl, etf', s3⟩
          have htg3 : Tgs H3 (xs ++ [v]) (ds ++ [d]) := ((htg.mono fun b zs e => s2 b _ e).snoc hv).mono fun b zs e => s3 b _ e
          refine ⟨fun σ H' => σ = [some (.str z), some (.int (j : Int)), some (.int ((k + 1 : Nat) : Int)), some (.ref tf'), some v, some (.bl false)] ∧ H3 = H' ∧ ((cs z).drop j).head? ≠ some 41, ?_, ?_⟩
          · refine ⟨.int (j : Int), rfl, .str z, rfl, _, rfl, hl, _, _, rfl, rfl, _, rfl, ite2 (fun e1 => ?_) (fun e1 => iteF ⟨rfl, rfl, ?_⟩)⟩
            · have hj2 : j < (cs z).length := by
                have := of_decide_eq_true e1
                omega
              have ed := drop_at hj2
              have ec : (cs z)[j]? = some (cs z)[j] := List.getElem?_eq_getElem hj2
              generalize hc : (cs z)[j] = c at ed ec
              refine ⟨.str z, rfl, .int (j : Int), rfl, z, _, c, rfl, rfl, hl, atI_nat ec, rfl, _, rfl, ite2 (fun e => ?_) (fun e => ⟨rfl, rfl, ?_⟩)⟩
              · have e2 := sg_t q41 e
                refine ⟨.ref tf', rfl, .int (j : Int), rfl, _, _, rfl, rfl, (by decide : 3 ≤ sizeLine), fun t4 nt4 => ?_⟩
                refine q _ t4 (some (.tuple (ds ++ [d]))) (j + 1) (.ref tf') (((s1.trans s2).trans s3).trans (same_upd nt4)) hj2 (fin (hR _ _ ?_)) upd_same ?_
                · rw [ed, e2] at hrd
                  exact .close _ _ _ _ _ hrd
                · have h4 := htg3.mono fun b zs e => same_upd (o := .tup [.ref tf', .int ((j : Int) + 1), .bl false]) nt4 b _ e
                  exact .tup (same_upd nt4 _ _ etf') h4.1 h4.2
              · have n41 := sg_f q41 e
                rw [ed]
                simpa using n41
            · have : (cs z).length ≤ j := by
                have : ¬ ((j : Int) < (z.length : Int)) := fun h => e1 (decide_eq_true h)
                omega
              rw [List.drop_eq_nil_of_le this]
              simp
          · rintro σ H' ⟨rfl, eH, h41'⟩
            subst eH
            have ret : ((cs z).drop j).head? ≠ some 44 → ∀ t4, H3 t4 = none → Q (.ref t4) (upd H3 t4 (.tup [.non, .int (j : Int), .bl true])) := fun h44 t4 nt4 =>
              q _ t4 none j .non (((s1.trans s2).trans s3).trans (same_upd nt4)) hj (fin (hR _ _ (.stop _ _ _ _ _ hrd h41' h44))) upd_same rfl
            refine ⟨.int (j : Int), rfl, .str z, rfl, _, rfl, hl, rfl, _, rfl, ite2 (fun e1 => ?_) (fun e1 => ?_)⟩
            · have e2 : (cs z).length ≤ j := by
                have : (j : Int) = (z.length : Int) := V.int.inj (of_decide_eq_true e1)
                omega
              refine iteT ⟨.int (j : Int), rfl, (by decide : 3 ≤ sizeLine), ret ?_⟩
              rw [List.drop_eq_nil_of_le e2]
              simp
            · have hj2 : j < (cs z).length := by
                have : ¬ ((j : Int) = (z.length : Int)) := fun h => e1 (decide_eq_true (by rw [h]))
                omega
              have ed := drop_at hj2
              have ec : (cs z)[j]? = some (cs z)[j] := List.getElem?_eq_getElem hj2
              generalize hc : (cs z)[j] = c at ed ec
              refine ⟨.str z, rfl, .int (j : Int), rfl, z, _, c, rfl, rfl, hl, atI_nat ec, rfl, _, rfl, ?_⟩
              by_cases h44 : c = 44
              · rw [show (!decide (V.str ⟨#[c]⟩ = V.str (Str.ofString ","))) = false by rw [q44, h44]; rfl]
                refine iteF ⟨.int (j : Int), rfl, _, _, rfl, rfl, (cs z).length - (j + 1), by omega, j + 1, tf', xs ++ [v], ds ++ [d], _, _, rfl, etf', htg3, (s1.trans s2).trans s3, hj2, rfl, ?_, fun o r h => hR _ _ ?_⟩
                · rw [List.length_append]
                  show ds.length + 1 ≤ _
                  omega
                · rw [ed, h44] at hrd
                  exact .next _ _ _ _ _ _ _ hrd h
              · rw [show (!decide (V.str ⟨#[c]⟩ = V.str (Str.ofString ","))) = true by
                  rw [decide_eq_false (fun h => h44 (sg_t q44 (decide_eq_true h)))]
                  rfl]
                refine iteT ⟨.int (j : Int), rfl, (by decide : 3 ≤ sizeLine), ret ?_⟩
                rw [ed]
                simpa using h44
theorem ok_first_wrong (T : Blt mg) (dread_string : DnReadString K mg) (dread_integer : DnReadInteger K mg) (dread_tuple : DnReadTuple K mg) (dfirst_wrong : DnFirstWrong K mg) : ∀ n : Nat,
    FnOk P w K mg base CX0 (2 * n + 2) dfirst_wrong.f dfirst_wrong.fd ["_law_text", "_law_at", "_law_deep_here"] (spFW n)
  | 0 => ok_first_wrong' T dread_string dread_integer dread_tuple dfirst_wrong 0 (ok_no dread_tuple scread_tuple)
  | n + 1 => ok_first_wrong' T dread_string dread_integer dread_tuple dfirst_wrong (n + 1) (ok_read_tuple' T dread_tuple dfirst_wrong n (ok_first_wrong T dread_string dread_integer dread_tuple dfirst_wrong n))
/-! _law_unpacked -/
/-- what reading a whole text tells: the thing, or the place -/
inductive Un (l : List Nat) : Option PyData → Nat → Prop
  | ok {d : PyData} : Rd (.one 0) l (some d) [] → Un l (some d) l.length
  | rest {d : PyData} {i : Nat} : i < l.length → Rd (.one 0) l (some d) (l.drop i) → Un l none i
  | bad {i : Nat} : i ≤ l.length → Rd (.one 0) l none (l.drop i) → Un l none i
def spUnpackedL : Sp := fun vs H Q _ => ∃ (z : Str), vs = [.str z] ∧ (cs z).length ≤ 1000000 ∧
  ∀ H' t (o : Option PyData) (i : Nat) (v : V), Same H H' → Un (cs z) o i → H' t = some (.tup (match o with | some _ => [.str (Str.ofString "thing"), v] | none => [.str (Str.ofString "wrong"), .int (i : Int)])) → Val3 H' v o → Q (.ref t) H'
theorem ok_unpackedL (T : Blt mg) (dread_string : DnReadString K mg) (dread_integer : DnReadInteger K mg) (dread_tuple : DnReadTuple K mg) (dfirst_wrong : DnFirstWrong K mg) (d : DnUnpackedL K mg) :
    FnOk P w K mg base CX0 63 d.f d.fd ["_law_text"] spUnpackedL := by
  have Gfirst_wrong : FnOk P w K mg base CX0 62 dfirst_wrong.f dfirst_wrong.fd ["_law_text", "_law_at", "_law_deep_here"] (spFW 30) := ok_first_wrong T dread_string dread_integer dread_tuple dfirst_wrong 30
  refine d.F.ok scunpacked (fun vs H Q E h => ?_) (fun cdv A outer s H vs Q E hr h => ?_)
  · obtain ⟨z, rfl, _⟩ := h
    rfl
  · obtain ⟨z, rfl, hz, q⟩ := h
    have hlz := cs_len z
    have hl : z.length ≤ sizeLine := by rw [sizeLine_eq, ← cs_len]; omega
    refine ⟨_, (pss_cons (ps_asg (pe_call Gfirst_wrong (hr.mono (by omega)) (by rfl) dfirst_wrong.g dfirst_wrong.F.kp dfirst_wrong.b .nil pass0 (pa_cons (pv 0) (pa_cons pe_int (pa_cons pe_int pa_nil)))) (pg_tup (by rfl) (pgs_cons (pg_name (i := 1) scunpacked.nd rfl (Or.inl rfl)) (pgs_cons (pg_name (i := 2) scunpacked.nd rfl (Or.inl rfl)) (pgs_cons (pg_name (i := 3) scunpacked.nd rfl (Or.inl rfl)) pgs_nil)))))
    (pss_cons (ps_if (pt_val (pv 3))
      (pss_one (ps_ret (pe_tup (pa_cons pe_str (pa_cons (pv 2) pa_nil)))))
      pss_nil)
    (pss_one (ps_ret (pe_ifExp (pt_cmpR op_eq (pv 2) (pe_callB call_len_str (by rfl) T.n_len (by decide +kernel) (pa_cons (pv 0) pa_nil)) (nomark _)) (pe_tup (pa_cons pe_str (pa_cons (pv 1) pa_nil))) (pe_tup (pa_cons pe_str (pa_cons (pv 2) pa_nil)))))))), ?_⟩
    refine ⟨.str z, rfl, z, 0, 0, rfl, Nat.zero_le _, hz, by decide, fun H2 t o j v s2 hj hrd et hv => ?_⟩
    refine ⟨t, _, rfl, .inl (.inl et), rfl, v, _, rfl, .int (j : Int), _, rfl, .bl o.isNone, _, rfl, rfl, ?_⟩
    rw [List.drop_zero] at hrd
    refine ⟨.bl o.isNone, rfl, o.isNone, rfl, ?_⟩
    cases o with
    | none =>
      refine iteT ⟨.int (j : Int), rfl, (by decide : 2 ≤ sizeLine), fun t2 nt2 => ?_⟩
      exact q _ t2 none j .non (s2.trans (same_upd nt2)) (.bad hj hrd) upd_same rfl
    | some d =>
      have hv : Tg H2 v d := hv
      refine iteF ⟨.int (j : Int), rfl, .str z, rfl, _, rfl, hl, rfl, _, rfl, ite2 (fun e => ?_) (fun e => ?_)⟩
      · have ej : j = (cs z).length := by
          have : (j : Int) = (z.length : Int) := V.int.inj (of_decide_eq_true e)
          omega
        refine ⟨v, rfl, (by decide : 2 ≤ sizeLine), fun t2 nt2 => ?_⟩
        refine q _ t2 (some d) (cs z).length v (s2.trans (same_upd nt2)) (.ok ?_) upd_same (hv.same (same_upd nt2))
        rw [ej, List.drop_length] at hrd
        exact hrd
      · have : ¬ ((j : Int) = (z.length : Int)) := fun h => e (decide_eq_true (by rw [h]))
        refine ⟨.int (j : Int), rfl, (by decide : 2 ≤ sizeLine), fun t2 nt2 => ?_⟩
        exact q _ t2 none j .non (s2.trans (same_upd nt2)) (.rest (by omega) hrd) upd_same rfl
end
end Kb

namespace Kb
open PySem PySem.Spec PyProof.Rows L2
open PySem.NumText (digitsVal AllDigits)
abbrev sP_quoted : Stmt := topS 19
abbrev NP_quoted : List Str := ["text", "place", "signs", "sign"]
theorem scP_quoted : FnScope ["text", "place", "signs", "sign"] ["text", "place"] (defScope sP_quoted) := ⟨rfl, rfl, rfl, by decide +kernel, rfl, by decide +kernel, by decide +kernel⟩
abbrev sP_written : Stmt := topS 20
abbrev NP_written : List Str := ["text", "place", "below", "first", "end"]
theorem scP_written : FnScope ["text", "place", "below", "first", "end"] ["text", "place"] (defScope sP_written) := ⟨rfl, rfl, rfl, by decide +kernel, rfl, by decide +kernel, by decide +kernel⟩
abbrev sP_single : Stmt := topS 18
abbrev NP_single : List Str := ["text", "place", "sign"]
theorem scP_single : FnScope ["text", "place", "sign"] ["text", "place"] (defScope sP_single) := ⟨rfl, rfl, rfl, by decide +kernel, rfl, by decide +kernel, by decide +kernel⟩
abbrev sBad : Stmt := inClass (topS 4) 0
theorem scBad : FnScope ["self", "place"] ["self", "place"] (defScope sBad) := ⟨rfl, rfl, rfl, by decide +kernel, rfl, by decide +kernel, by decide +kernel⟩
/-! BadText(place) -/
structure TxBad (K : PySem.W.Frag) (mg : Str → Option Value) where
  C : Addr
  fI : Addr
  fdI : FuncData
  oex : OexC K C
  iC : PySem.W.findIn K (.ref C) "__init__" = some (some (.ref fI))
  tI : PySem.W.typeIn K (.ref fI) = some (.type "function")
  F : Fun K "__init__" "BadText.__init__" sBad fI fdI
  b : Binds K fdI ["self", "place"] []
  gC : mg "BadText" = some (.ref C)
  noP : PySem.W.findIn K (.ref C) "place" = some none
  te : PySem.W.exmOne K (.ref C) (.ref C) = some true
def spInit (C : Addr) : Sp := fun vs H Q _ => ∃ (a : Addr) (y : V), vs = [.ref a, y] ∧ H a = some (exo a C none) ∧ ∀ dx, H dx = none → dx ≠ a → Q .non (upd (upd H dx (exd dx [(("place" : Str), y)])) a (exo a C (some dx)))
/-- the error with this place has been made -/
def BadAt (H H' : Hp) (d : Addr) (i : Nat) : Prop := Same H H' ∧ H' d = some (.xd [(("place" : Str), .int (i : Int))])
theorem bad_post {C : Addr} {y : V} {H1 : Hp} {W : XK} (h : ∀ d H', Same H1 H' → H' d = some (.xd [(("place" : Str), y)]) → W (.ref C) (some d) H') :
    ([y] : List V).length ≤ 1000 ∧ ∀ a, H1 a = none → spInit C (.ref a :: ([y] ++ [])) (upd H1 a (exo a C none))
      (fun v H2 => v = .non ∧ ∃ (d : Addr) (fs : List (Str × V)), H2 a = some (exo a C (some d)) ∧ H2 d = some (exd d fs) ∧ H1 d = none ∧ W (.ref C) (some d) (upd (del H2 a) d (.xd fs))) (fun _ _ _ => False) := by
  refine ⟨(by decide : 1 ≤ 1000), fun a na => ⟨a, y, rfl, upd_same, fun dx nd ne => ⟨rfl, dx, [(("place" : Str), y)], upd_same, ?_, ?_, ?_⟩⟩⟩
  · rw [upd_ne ne, upd_same]
  · rw [upd_ne ne] at nd
    exact nd
  · refine h dx _ (fun b o e => ?_) upd_same
    have nd' : H1 dx = none := by
      rw [upd_ne ne] at nd
      exact nd
    have h1 : b ≠ a := ne_of_none e na
    have h2 : b ≠ dx := ne_of_none e nd'
    rw [upd_ne h2, del_ne h1, upd_ne h1, upd_ne h2, upd_ne h1]
    exact e
section
variable {P : Program} {w : World} {K : PySem.W.Frag} {mg : Str → Option Value} {base : Heap}
theorem ok_init (B : TxBad K mg) : FnOk P w K mg base CX0 1 B.fI B.fdI ["self", "place"] (spInit B.C) := by
  refine B.F.ok scBad (fun vs H Q E h => ?_) (fun cdv A outer s H vs Q E hr h => ?_)
  · obtain ⟨a, y, rfl, _⟩ := h
    rfl
  · obtain ⟨a, y, rfl, ea, q⟩ := h
    refine ⟨_, (pss_one (ps_ost (pv 0) (pv 1))), ?_⟩
    exact ⟨y, rfl, .ref a, rfl, a, B.C, rfl, B.oex, B.noP, .inl ⟨ea, fun dx nd ne => q dx nd ne⟩⟩
end
/-! text[place:place + 1] -/
theorem cut1' (z : Str) (p : Nat) : cutS z (some (p : Int)) (some ((p : Int) + 1)) = S (((cs z).drop p).take 1) := by
  have hz := cs_len z
  unfold cutS
  rw [show ((p : Int) + 1) = ((p + 1 : Nat) : Int) by omega, show HT.sIx z.length 0 (some (p : Int)) = min p z.length from HT.sIx_nat _ _ _, show HT.sIx z.length z.length (some ((p + 1 : Nat) : Int)) = min (p + 1) z.length from HT.sIx_nat _ _ _]
  by_cases h : p < z.length
  · rw [Nat.min_eq_left (by omega), Nat.min_eq_left (by omega), show p + 1 - p = 1 by omega]
    rfl
  · rw [Nat.min_eq_right (by omega), Nat.min_eq_right (by omega), Nat.sub_self, List.drop_eq_nil_of_le (show (cs z).length ≤ p by omega)]
    rfl
abbrev rAddI : R2 := rI0 fun i j => .int (i + j)
theorem rd_sg {σ : L2.St} {H : Hp} {Q : VK} {z : Str} {p n : Nat} (h0 : σ[0]? = some (some (.str z))) (h1 : σ[n]? = some (some (.int (p : Int)))) (hz : (cs z).length ≤ 1000000) (q : Q (.str (S (((cs z).drop p).take 1))) H) :
    tSl rSlS (tVar 0) (tPart (tVar n)) (tPart (tOp rAddI (tVar n) (tC (.int 1)))) σ H Q := by
  have hl : z.length ≤ sizeLine := by rw [sizeLine_eq, ← cs_len]; omega
  refine ⟨.str z, h0, .int (p : Int), h1, p, rfl, .int (p : Int), h1, p, 1, rfl, rfl, _, rfl, z, rfl, hl, ?_⟩
  rw [cut1']
  exact q
/-- a sign that is there, or none -/
theorem str_eq {a b : List Nat} : (V.str (S a) = V.str (S b)) ↔ a = b := ⟨fun h => S_inj (by injection h), fun h => by rw [h]⟩
theorem sg1 {s : Str} {k : Nat} (hk : s = S [k]) (l : List Nat) : decide (V.str (S (l.take 1)) = V.str s) = decide (l.head? = some k) := by
  have e : (V.str (S (l.take 1)) = V.str s) ↔ l.head? = some k := by
    rw [hk, str_eq]
    cases l with
    | nil => simp
    | cons c r => simp
  by_cases h : l.head? = some k
  · rw [decide_eq_true h, decide_eq_true (e.mpr h)]
  · rw [decide_eq_false h, decide_eq_false (fun z => h (e.mp z))]
theorem beq_sg {s : Str} {k : Nat} (hk : s = S [k]) (l : List Nat) : (s == S (l.take 1)) = decide (l.head? = some k) := by
  rw [← sg1 hk l]
  by_cases h : s = S (l.take 1)
  · rw [← h, decide_eq_true rfl]
    exact beq_self_eq_true _
  · rw [decide_eq_false (fun z => h (by injection z with z; exact z.symm))]
    exact beq_eq_false_iff_ne.mpr h
def rng (lo hi : Nat) : List Nat → Bool
  | [] => false
  | c :: _ => decide (lo ≤ c) && decide (c ≤ hi)
theorem not_lt (a b : Nat) : (!decide (a < b)) = decide (b ≤ a) := by
  by_cases h : a < b
  · rw [decide_eq_true h, decide_eq_false (by omega)]
    rfl
  · rw [decide_eq_false h, decide_eq_true (by omega)]
    rfl
/-- 'a' <= sign <= 'b' -/
theorem rd_chain {σ : L2.St} {H : Hp} {Q : Bool → Hp → Prop} {lo hi : Nat} {slo shi : Str} {l : List Nat} {tm : TE} (hlo : slo.cps.toList = [lo]) (hhi : shi.cps.toList = [hi]) (hm : ∀ R : VK, R (.str (S (l.take 1))) H → tm σ H R) (q : Q (rng lo hi l) H) :
    tTest (tChain rLeS rLeS (tC (.str slo)) tm (tC (.str shi))) σ H Q := by
  refine hm _ ⟨_, _, rfl, rfl, ?_⟩
  cases l with
  | nil =>
    refine ⟨false, ?_, iteF ⟨false, rfl, q⟩⟩
    rw [hlo]
    rfl
  | cons c r =>
    refine ⟨decide (lo ≤ c), ?_, ?_⟩
    · rw [hlo]
      show V.bl (!decide ([c] < [lo])) = _
      rw [lt_one, not_lt]
    · have q : Q (decide (lo ≤ c) && decide (c ≤ hi)) H := q
      cases h : decide (lo ≤ c) with
      | true =>
        rw [h] at q
        refine iteT ⟨_, _, rfl, rfl, decide (c ≤ hi), ?_, q⟩
        rw [hhi]
        show V.bl (!decide ([hi] < [c])) = _
        rw [lt_one, not_lt]
      | false =>
        rw [h] at q
        exact iteF ⟨_, rfl, q⟩
theorem rng_plain (l : List Nat) : rng 32 126 l = (match l with | [] => false | c :: _ => plainC c) := by
  cases l <;> rfl
section
variable {P : Program} {w : World} {K : PySem.W.Frag} {mg : Str → Option Value} {base : Heap}
abbrev DnQuoted (K : PySem.W.Frag) (mg : Str → Option Value) := Dn K mg "_quoted" sP_quoted ["text", "place"]
/-! _quoted -/
def spQuoted (C : Addr) : Sp := fun vs H Q E => ∃ (z : Str) (p : Nat), vs = [.str z, .int (p : Int)] ∧ p ≤ (cs z).length ∧ (cs z).length ≤ 1000000 ∧
  (∀ H' t (l : List Nat) (i : Nat), Same H H' → i ≤ (cs z).length → rdS ((cs z).drop p) [] = (some l, (cs z).drop i) → H' t = some (.tup [.str (S l), .int (i : Int)]) → Q (.ref t) H') ∧
  (∀ H' d (i : Nat), BadAt H H' d i → i ≤ (cs z).length → rdS ((cs z).drop p) [] = (none, (cs z).drop i) → E (.ref C) (some d) H')
theorem ok_quoted (T : Blt mg) (B : TxBad K mg) (d : DnQuoted K mg) : FnOk P w K mg base (L2.CX P w) 3 d.f d.fd ["text", "place"] (spQuoted B.C) := by
  have GInit : FnOk P w K mg base CX0 1 B.fI B.fdI ["self", "place"] (spInit B.C) := ok_init B
  refine d.F.okX scP_quoted (fun vs H Q E h => ?_) (fun cdv A outer s H vs Q E hr h => ?_)
  · obtain ⟨z, p, rfl, _⟩ := h
    rfl
  · obtain ⟨z, p, rfl, hp, hz, q, qe⟩ := h
    have hlz := cs_len z
    have hl : z.length ≤ sizeLine := by rw [sizeLine_eq, ← cs_len]; omega
    refine ⟨_, (pss_cons (ps_set (i := 2) scP_quoted.nd rfl (Or.inl rfl) (pe_lst pa_nil))
    (pss_cons (ps_while (passes_of rfl) (pt_cmpR op_ne (pe_slice sl_str (pv 0) (po_some (pv 1)) (po_some (pe_op op_add (pv 1) pe_int))) pe_str (nomark _))
      (C8.pss_cut (ps_if (pt_cmpR op_eq (pe_slice sl_str (pv 0) (po_some (pv 1)) (po_some (pe_op op_add (pv 1) pe_int))) pe_str (nomark _))
        (pss_cons (ps_aug (i := 1) scP_quoted.nd rfl (Or.inl rfl) pe_int ip_add)
        (pss_one (ps_if (pt_cmpR op_notIn_seq (pe_slice sl_str (pv 0) (po_some (pv 1)) (po_some (pe_op op_add (pv 1) pe_int))) (pe_tup (pa_cons pe_str (pa_cons pe_str pa_nil))) rfl)
          (pss_one (ps_raise rfl (takes_of rfl rfl rfl rfl) (pmk_oex B.oex B.iC B.tI GInit (hr.mono (by omega)) B.b .nil pass0 rfl B.gC (pa_cons (pv 1) pa_nil))))
          pss_nil)))
        pss_nil)
      (pss_cons (ps_set (i := 3) scP_quoted.nd rfl (Or.inl rfl) (pe_slice sl_str (pv 0) (po_some (pv 1)) (po_some (pe_op op_add (pv 1) pe_int))))
      (pss_cons (ps_if (pt_not (pt_chain op_le_str op_le_str pe_str (pv 3) pe_str))
        (pss_one (ps_raise rfl (takes_of rfl rfl rfl rfl) (pmk_oex B.oex B.iC B.tI GInit (hr.mono (by omega)) B.b .nil pass0 rfl B.gC (pa_cons (pv 1) pa_nil))))
        pss_nil)
      (pss_cons (ps_expr (pe_bm PySem.F.plainAttrs_list PySem.F.slot_list_append PySem.F.type_list_append mt_append (pv 2) (pa_cons (pv 3) pa_nil)))
      (pss_one (ps_aug (i := 1) scP_quoted.nd rfl (Or.inl rfl) pe_int ip_add)))))))
    (pss_one (ps_ret (pe_tup (pa_cons (pe_join pe_str (pv 2)) (pa_cons (pe_op op_add (pv 1) pe_int) pa_nil))))))), ?_⟩
    refine ⟨Nat.zero_le _, fun a na => ?_⟩
    have s0 : Same H (upd H a (.lst [])) := same_upd na
    have st : ∀ {H1 : Hp} {i : Nat} {l : List Nat}, (∀ b o, b ≠ a → H b = some o → H1 b = some o) → H1 a = some (.lst (l.map fun c => V.str (S [c]))) → Same H H1 := fun h e b o hb => h b o (ne_of_none hb na) hb
    refine ⟨fun m σ H' => ∃ (i : Nat) (fd : List Nat) (y : Option V), σ = [some (.str z), some (.int (i : Int)), some (.ref a), y] ∧ Same H H' ∧ H' a = some (.lst (fd.map fun c => V.str (S [c]))) ∧ i ≤ (cs z).length ∧ m = (cs z).length - i ∧ rdS ((cs z).drop i) fd = rdS ((cs z).drop p) [] ∧ fd.length ≤ i,
      ⟨_, p, [], none, rfl, s0, upd_same, hp, rfl, rfl, Nat.zero_le _⟩, ?_⟩
    rintro m σ H1 ⟨i, fd, y, rfl, s1, ea, hi, rfl, hrd, hfd⟩
    refine rd_sg rfl rfl hz ⟨rfl, _, rfl, ?_⟩
    rw [sg1 q39]
    by_cases h39 : ((cs z).drop i).head? = some 39
    · rw [decide_eq_true h39]
      -- the end: return (''.join(signs), place + 1)
      have hi2 : i < (cs z).length := by
        rcases Nat.lt_or_ge i (cs z).length with h | h
        · exact h
        · rw [List.drop_eq_nil_of_le h] at h39
          cases h39
      have ed := drop_at hi2
      rw [ed] at h39
      have ec : (cs z)[i] = 39 := Option.some.inj h39
      refine iteF ⟨⟨_, rfl⟩, .ref a, rfl, _, a, fd.map fun c => S [c], rfl, rfl, .inl (sql ?_), ?_, .int (i : Int), rfl, _, _, rfl, rfl, (by decide : 2 ≤ sizeLine), fun t nt => ?_⟩
      · rw [ea, List.map_map]
        rfl
      · rw [List.map_map, List.length_map]
        have : ((List.map ((fun x => x.length) ∘ fun c => S [c]) fd)).sum = fd.length := by
          clear hrd ea hfd
          induction fd with
          | nil => rfl
          | cons x r ih =>
            rw [List.map_cons, List.sum_cons, ih, List.length_cons]
            show 1 + _ = _
            omega
        rw [this, show (Str.ofString "").length = 0 by decide +kernel]
        omega
      · have e : Txt.join (Str.ofString "") (fd.map fun c => S [c]) = S fd := join_signs fd
        rw [e]
        refine q _ t fd (i + 1) (s1.trans (same_upd nt)) hi2 ?_ upd_same
        rw [← hrd, ed, ec, rdS_quote]
    · rw [decide_eq_false h39]
      refine iteT ⟨fun σ' H' => ∃ m', m' < (cs z).length - i ∧ ∃ (i : Nat) (fd : List Nat) (y : Option V), σ' = [some (.str z), some (.int (i : Int)), some (.ref a), y] ∧ Same H H' ∧ H' a = some (.lst (fd.map fun c => V.str (S [c]))) ∧ i ≤ (cs z).length ∧ m' = (cs z).length - i ∧ rdS ((cs z).drop i) fd = rdS ((cs z).drop p) [] ∧ fd.length ≤ i, fun _ _ h => h, ?_⟩
      -- i': where the sign stands; what rdS does from there
      refine ⟨fun σ' H' => ∃ (i' : Nat), σ' = [some (.str z), some (.int (i' : Int)), some (.ref a), y] ∧ Same H1 H' ∧ i ≤ i' ∧ i' ≤ (cs z).length ∧
          (∀ c r, (cs z).drop i' = c :: r → plainC c = true → rdS r (fd ++ [c]) = rdS ((cs z).drop p) []) ∧ (rng 32 126 ((cs z).drop i') = false → rdS ((cs z).drop p) [] = (none, (cs z).drop i')), ?_, ?_⟩
      · refine rd_sg rfl rfl hz ⟨rfl, _, rfl, ?_⟩
        rw [sg1 q126]
        by_cases h126 : ((cs z).drop i).head? = some 126
        · rw [decide_eq_true h126]
          have hi2 : i < (cs z).length := by
            rcases Nat.lt_or_ge i (cs z).length with h | h
            · exact h
            · rw [List.drop_eq_nil_of_le h] at h126
              cases h126
          have ed := drop_at hi2
          rw [ed] at h126
          have ec : (cs z)[i] = 126 := Option.some.inj h126
          rw [ec] at ed
          refine iteT ⟨.int (i : Int), rfl, _, _, rfl, rfl, ?_⟩
          have einV : inV (V.str (S (((cs z).drop (i + 1)).take 1))) [.str (Str.ofString "'"), .str (Str.ofString "~")] = (decide (((cs z).drop (i + 1)).head? = some 39) || decide (((cs z).drop (i + 1)).head? = some 126)) := by
            show ((Str.ofString "'" == S (((cs z).drop (i + 1)).take 1)) || ((Str.ofString "~" == S (((cs z).drop (i + 1)).take 1)) || false)) = _
            rw [beq_sg q39, beq_sg q126, Bool.or_false]
          refine rd_sg (p := i + 1) rfl rfl hz ⟨(by decide : 2 ≤ sizeLine), fun tp ntp => ⟨tp, _, rfl, .inr (.inl (.inl upd_same)), rfl, by decide, !(decide (((cs z).drop (i + 1)).head? = some 39) || decide (((cs z).drop (i + 1)).head? = some 126)), ?_, ?_⟩⟩
          · rw [if_pos rfl, einV]
          have sT : Same H1 (upd H1 tp (.tup [.str (Str.ofString "'"), .str (Str.ofString "~")])) := same_upd ntp
          by_cases h2 : ((cs z).drop (i + 1)).head? = some 39 ∨ ((cs z).drop (i + 1)).head? = some 126
          · have e2 : (!(decide (((cs z).drop (i + 1)).head? = some 39) || decide (((cs z).drop (i + 1)).head? = some 126))) = false := by
              rcases h2 with h2 | h2
              · rw [decide_eq_true h2]
                rfl
              · rw [decide_eq_true h2, Bool.or_true]
                rfl
            rw [e2]
            refine iteF ⟨i + 1, rfl, sT, Nat.le_succ _, hi2, fun c r e pc => ?_, fun h => ?_⟩
            · have hc : c = 39 ∨ c = 126 := by
                rw [e] at h2
                simpa using h2
              rw [← hrd, ed, e, rdS_esc _ _ hc]
            · cases e : (cs z).drop (i + 1) with
              | nil =>
                rw [e] at h2
                simp at h2
              | cons c r =>
                have hc : c = 39 ∨ c = 126 := by
                  rw [e] at h2
                  simpa using h2
                rw [e] at h
                rcases hc with hc | hc
                · rw [hc] at h
                  exact Bool.noConfusion (show true = false from h)
                · rw [hc] at h
                  exact Bool.noConfusion (show true = false from h)
          · have e2 : (!(decide (((cs z).drop (i + 1)).head? = some 39) || decide (((cs z).drop (i + 1)).head? = some 126))) = true := by
              rw [decide_eq_false (fun z => h2 (.inl z)), decide_eq_false (fun z => h2 (.inr z))]
              rfl
            rw [e2]
            refine iteT ⟨.int ((i : Int) + 1), rfl, bad_post fun d H' s' e' => qe H' d (i + 1) ⟨(s1.trans sT).trans s', e'⟩ hi2 ?_⟩
            rw [← hrd, ed]
            cases e : (cs z).drop (i + 1) with
            | nil => rfl
            | cons c r =>
              rw [e] at h2
              exact rdS_escX _ _ (by simpa using h2)
        · rw [decide_eq_false h126]
          refine iteF ⟨i, rfl, Same.refl _, Nat.le_refl _, hi, fun c r e pc => ?_, fun h => ?_⟩
          · rw [e] at h39 h126
            rw [← hrd, e, rdS_plain _ _ (by simpa using h39) (by simpa using h126) pc]
          · rw [← hrd]
            cases e : (cs z).drop i with
            | nil => rfl
            | cons c r =>
              rw [e] at h39 h126 h
              rw [rng_plain] at h
              have h : plainC c = false := h
              exact rdS_bad _ _ (by simpa using h39) (by simpa using h126) (by rw [h]; decide)
      · rintro σ' H2 ⟨i', rfl, s2, hii, hi', hgo, hbad⟩
        have ea2 : H2 a = some (.lst (fd.map fun c => V.str (S [c]))) := s2 _ _ ea
        refine rd_sg rfl rfl hz ?_
        refine rd_chain (lo := 32) (hi := 126) (slo := Str.ofString " ") (shi := Str.ofString "~") (tm := tVar 3) (l := (cs z).drop i') (by decide +kernel) (by decide +kernel) (fun R h => ⟨_, rfl, h⟩) ?_
        cases hr : rng 32 126 ((cs z).drop i') with
        | false =>
          exact iteT ⟨.int (i' : Int), rfl, bad_post fun d H' s' e' => qe H' d i' ⟨(s1.trans s2).trans s', e'⟩ hi' (hbad hr)⟩
        | true =>
          refine iteF ?_
          have hi3 : i' < (cs z).length := by
            rcases Nat.lt_or_ge i' (cs z).length with h | h
            · exact h
            · rw [List.drop_eq_nil_of_le h] at hr
              cases hr
          have ed := drop_at hi3
          generalize hc : (cs z)[i'] = c at ed
          rw [ed, rng_plain] at hr
          have hr : plainC c = true := hr
          have et : ((cs z).drop i').take 1 = [c] := by
            rw [ed]
            rfl
          refine ⟨.ref a, rfl, .inl ⟨rfl, _, sql ea2⟩, .str (S (((cs z).drop i').take 1)), rfl, a, _, _, rfl, rfl, ea2, ?_, .int (i' : Int), rfl, _, _, rfl, rfl, ?_⟩
          · rw [List.length_map, sizeLine_eq]
            omega
          · refine ⟨(cs z).length - (i' + 1), by omega, i' + 1, fd ++ [c], some (.str (S (((cs z).drop i').take 1))), rfl, fun b o e => ?_, ?_, hi3, rfl, hgo c _ ed hr, ?_⟩
            · rw [upd_ne (ne_of_none e na)]
              exact s2 _ _ (s1 _ _ e)
            · rw [upd_same, et, List.map_append]
              rfl
            · rw [List.length_append]
              show fd.length + 1 ≤ _
              omega
theorem num_txt {z : Str} {p f j : Nat} {neg : Bool} {l1 : List Nat} (hA : (cs z).drop p = if neg then 45 :: l1 else l1) (hf : f = p + (if neg then 1 else 0)) (hl : f + j ≤ (cs z).length) (hj : j ≤ (takeD 30 l1).length) :
    cutS z (some (p : Int)) (some ((f + j : Nat) : Int)) = S (if neg then 45 :: (takeD 30 l1).take j else (takeD 30 l1).take j) := by
  have hT := takeD_take 30 l1
  have ht : l1.take j = (takeD 30 l1).take j := by
    rw [← hT, List.take_take, Nat.min_eq_left hj]
  rw [cut_in (by split at hf <;> omega) hl]
  cases neg with
  | true =>
    have hA : (cs z).drop p = 45 :: l1 := hA
    have hf : f = p + 1 := hf
    rw [hA, show f + j - p = j + 1 by omega, List.take_succ_cons, ht]
    rfl
  | false =>
    have hf : f = p := hf
    have hA : (cs z).drop p = l1 := hA
    rw [hA, show f + j - p = j by omega, ht]
    rfl
theorem rdN_bad {neg : Bool} {l : List Nat} (h : rng 49 57 l = false) (h0 : ¬ (l.head? = some 48 ∧ neg = false)) : rdN neg l = (none, l) := by
  cases l with
  | nil => rfl
  | cons c r =>
    rw [rdN_cons]
    by_cases h48 : c = 48
    · rw [if_pos h48]
      cases neg with
      | true => rfl
      | false => exact absurd ⟨by rw [h48]; rfl, rfl⟩ h0
    · have h : (decide (49 ≤ c) && decide (c ≤ 57)) = false := h
      rw [if_neg h48, if_neg (fun z => by rw [decide_eq_true z.1, decide_eq_true z.2] at h; cases h)]
abbrev DnWritten (K : PySem.W.Frag) (mg : Str → Option Value) := Dn K mg "_written" sP_written ["text", "place"]
abbrev DnSingle (K : PySem.W.Frag) (mg : Str → Option Value) := Dn K mg "_single" sP_single ["text", "place"]
/-! _written -/
def spWritten (C : Addr) : Sp := fun vs H Q E => ∃ (z : Str) (p : Nat), vs = [.str z, .int (p : Int)] ∧ p ≤ (cs z).length ∧ (cs z).length ≤ 1000000 ∧
  (∀ H' t (n : Int) (i : Nat), Same H H' → i ≤ (cs z).length → rdI ((cs z).drop p) = (some n, (cs z).drop i) → H' t = some (.tup [.int n, .int (i : Int)]) → Q (.ref t) H') ∧
  (∀ H' d (i : Nat), BadAt H H' d i → i ≤ (cs z).length → rdI ((cs z).drop p) = (none, (cs z).drop i) → E (.ref C) (some d) H')
theorem ok_written (T : Blt mg) (cM : Cst mg "MOST_DIGITS" (.int 30)) (B : TxBad K mg) (d : DnWritten K mg) : FnOk P w K mg base (L2.CX P w) 3 d.f d.fd ["text", "place"] (spWritten B.C) := by
  have GInit : FnOk P w K mg base CX0 1 B.fI B.fdI ["self", "place"] (spInit B.C) := ok_init B
  obtain ⟨uM, gMOST_DIGITS, rMOST_DIGITS⟩ := cM
  refine d.F.okX scP_written (fun vs H Q E h => ?_) (fun cdv A outer s H vs Q E hr h => ?_)
  · obtain ⟨z, p, rfl, _⟩ := h
    rfl
  · obtain ⟨z, p, rfl, hp, hz, q, qe⟩ := h
    have hlz := cs_len z
    have hl : z.length ≤ sizeLine := by rw [sizeLine_eq, ← cs_len]; omega
    refine ⟨_, (pss_cons (ps_set (i := 2) scP_written.nd rfl (Or.inl rfl) (pe_cmpR op_eq (pe_slice sl_str (pv 0) (po_some (pv 1)) (po_some (pe_op op_add (pv 1) pe_int))) pe_str (nomark _)))
    (C8.pss_cut (ps_set (i := 3) scP_written.nd rfl (Or.inl rfl) (pe_ifExp (pt_val (pv 2)) (pe_op op_add (pv 1) pe_int) (pv 1)))
    (C8.pss_cut (ps_if (PW.pt (pw_and (pt_cmpR op_eq (pe_slice sl_str (pv 0) (po_some (pv 3)) (po_some (pe_op op_add (pv 3) pe_int))) pe_str (nomark _)) (pw_and1 (pt_not (pt_val (pv 2))))))
      (pss_one (ps_ret (pe_tup (pa_cons pe_int (pa_cons (pe_op op_add (pv 3) pe_int) pa_nil)))))
      pss_nil)
    (pss_cons (ps_if (pt_not (pt_chain op_le_str op_le_str pe_str (pe_slice sl_str (pv 0) (po_some (pv 3)) (po_some (pe_op op_add (pv 3) pe_int))) pe_str))
      (pss_one (ps_raise rfl (takes_of rfl rfl rfl rfl) (pmk_oex B.oex B.iC B.tI GInit (hr.mono (by omega)) B.b .nil pass0 rfl B.gC (pa_cons (pv 3) pa_nil))))
      pss_nil)
    (pss_cons (ps_set (i := 4) scP_written.nd rfl (Or.inl rfl) (pe_op op_add (pv 3) pe_int))
    (C8.pss_cut (ps_while (passes_of rfl) (PW.pt (pw_and (pt_cmpR op_lt (pv 4) (pe_op op_add (pv 3) (pe_glob rfl gMOST_DIGITS rMOST_DIGITS)) (nomark _)) (pw_and1 (pt_chain op_le_str op_le_str pe_str (pe_slice sl_str (pv 0) (po_some (pv 4)) (po_some (pe_op op_add (pv 4) pe_int))) pe_str))))
      (pss_one (ps_aug (i := 4) scP_written.nd rfl (Or.inl rfl) pe_int ip_add)))
    (pss_one (ps_ret (pe_tup (pa_cons (pe_callTy call_int_str (by rfl) T.n_int (by decide +kernel) (pa_cons (pe_slice sl_str (pv 0) (po_some (pv 1)) (po_some (pv 4))) pa_nil)) (pa_cons (pv 4) pa_nil))))))))))), ?_⟩
    refine rd_sg rfl rfl hz ⟨rfl, ?_⟩
    rw [sg1 q45]
    refine ⟨fun σ H' => ∃ (neg : Bool) (f : Nat), σ = [some (.str z), some (.int (p : Int)), some (.bl neg), some (.int (f : Int)), none] ∧ H = H' ∧ f = p + (if neg then 1 else 0) ∧ f ≤ (cs z).length ∧ (cs z).drop p = (if neg then 45 :: (cs z).drop f else (cs z).drop f) ∧ rdI ((cs z).drop p) = rdN neg ((cs z).drop f), ?_, ?_⟩
    · by_cases h45 : ((cs z).drop p).head? = some 45
      · rw [decide_eq_true h45]
        have hp2 : p < (cs z).length := by
          rcases Nat.lt_or_ge p (cs z).length with h | h
          · exact h
          · rw [List.drop_eq_nil_of_le h] at h45
            cases h45
        have ed := drop_at hp2
        rw [ed] at h45
        have ec : (cs z)[p] = 45 := Option.some.inj h45
        rw [ec] at ed
        refine ⟨.bl true, rfl, true, rfl, iteT ⟨.int (p : Int), rfl, _, _, rfl, rfl, true, p + 1, rfl, rfl, rfl, hp2, ?_, ?_⟩⟩
        · rw [ed]
          rfl
        · rw [ed, rdI_cons, if_pos rfl]
      · rw [decide_eq_false h45]
        refine ⟨.bl false, rfl, false, rfl, iteF ⟨.int (p : Int), rfl, false, p, rfl, rfl, rfl, hp, rfl, ?_⟩⟩
        cases e : (cs z).drop p with
        | nil => rfl
        | cons c r =>
          rw [e] at h45
          rw [rdI_cons, if_neg (by simpa using h45)]
    · rintro σ H1 ⟨neg, f, rfl, eH, hf, hfl, hA, hI⟩
      subst eH
      generalize hl1 : (cs z).drop f = l1 at hA hI
      have hl1l : l1.length = (cs z).length - f := by rw [← hl1, List.length_drop]
      have get1 : ∀ j, l1[j]? = (cs z)[f + j]? := fun j => by rw [← hl1, List.getElem?_drop]
      have drop1 : ∀ j, l1.drop j = (cs z).drop (f + j) := fun j => by rw [← hl1, List.drop_drop]
      refine ⟨fun σ H' => σ = [some (.str z), some (.int (p : Int)), some (.bl neg), some (.int (f : Int)), none] ∧ H = H' ∧ ¬ (l1.head? = some 48 ∧ neg = false), ?_, ?_⟩
      · refine rd_sg rfl rfl hz ⟨rfl, _, rfl, ?_⟩
        rw [sg1 q48, hl1]
        by_cases h48 : l1.head? = some 48
        · rw [decide_eq_true h48]
          refine iteT ⟨.bl neg, rfl, neg, rfl, ?_⟩
          cases neg with
          | true => exact iteF ⟨rfl, rfl, fun h => by cases h.2⟩
          | false =>
            refine iteT ⟨.int (f : Int), rfl, _, _, rfl, rfl, (by decide : 2 ≤ sizeLine), fun t nt => ?_⟩
            cases l1 with
            | nil => cases h48
            | cons c r =>
              have hc : c = 48 := Option.some.inj h48
              refine q _ t 0 (f + 1) (same_upd nt) (by simp only [List.length_cons] at hl1l; omega) ?_ upd_same
              rw [hI, hc, rdN_cons, if_pos rfl, ← drop1 1]
              rfl
        · rw [decide_eq_false h48]
          exact iteF ⟨rfl, rfl, fun h => h48 h.1⟩
      · rintro σ H1 ⟨rfl, eH, h48⟩
        subst eH
        refine rd_chain (lo := 49) (hi := 57) (slo := Str.ofString "1") (shi := Str.ofString "9") (l := l1) (by decide +kernel) (by decide +kernel) (fun R h => rd_sg rfl rfl hz (by rw [hl1]; exact h)) ?_
        cases hr : rng 49 57 l1 with
        | false =>
          refine iteT ⟨.int (f : Int), rfl, bad_post fun d H' s' e' => qe H' d f ⟨s', e'⟩ hfl ?_⟩
          rw [hI, rdN_bad hr h48, hl1]
        | true =>
          refine iteF ⟨.int (f : Int), rfl, _, _, rfl, rfl, ?_⟩
          have hD := takeD_len 30 l1
          obtain ⟨c, r, e1⟩ : ∃ c r, l1 = c :: r := by
            cases l1 with
            | nil => cases hr
            | cons c r => exact ⟨c, r, rfl⟩
          have hc : 49 ≤ c ∧ c ≤ 57 := by
            rw [e1] at hr
            have hr : (decide (49 ≤ c) && decide (c ≤ 57)) = true := hr
            rw [Bool.and_eq_true] at hr
            exact ⟨of_decide_eq_true hr.1, of_decide_eq_true hr.2⟩
          have hD1 : 1 ≤ (takeD 30 l1).length := by
            rw [e1, takeD, if_pos (isDig_iff.mpr (by omega)), List.length_cons]
            omega
          refine ⟨fun σ H' => σ = [some (.str z), some (.int (p : Int)), some (.bl neg), some (.int (f : Int)), some (.int ((f + (takeD 30 l1).length : Nat) : Int))] ∧ H = H', ?_, ?_⟩
          · refine ⟨fun m σ H' => ∃ j : Nat, σ = [some (.str z), some (.int (p : Int)), some (.bl neg), some (.int (f : Int)), some (.int ((f + j : Nat) : Int))] ∧ H = H' ∧ j ≤ (takeD 30 l1).length ∧ m = (takeD 30 l1).length - j, ⟨_, 1, rfl, rfl, hD1, rfl⟩, ?_⟩
            rintro m σ H' ⟨j, rfl, eH, hj, rfl⟩
            subst eH
            have fin : j = (takeD 30 l1).length → [some (V.str z), some (.int (p : Int)), some (.bl neg), some (.int (f : Int)), some (.int ((f + j : Nat) : Int))] = [some (V.str z), some (.int (p : Int)), some (.bl neg), some (.int (f : Int)), some (.int ((f + (takeD 30 l1).length : Nat) : Int))] ∧ H = H := fun e => by
              rw [← e]
              exact ⟨rfl, rfl⟩
            refine ⟨.int ((f + j : Nat) : Int), rfl, .int (f : Int), rfl, _, _, rfl, rfl, _, _, rfl, rfl, _, rfl, ite2 (fun e => ?_) (fun e => iteF (fin ?_))⟩
            · have h30 : j < 30 := by
                have := of_decide_eq_true e
                omega
              refine rd_chain (lo := 48) (hi := 57) (slo := Str.ofString "0") (shi := Str.ofString "9") (l := l1.drop j) (by decide +kernel) (by decide +kernel) (fun R h => rd_sg rfl rfl hz (by rw [← drop1]; exact h)) ?_
              cases hr2 : rng 48 57 (l1.drop j) with
              | false =>
                refine iteF (fin ?_)
                rcases Nat.lt_or_ge j (takeD 30 l1).length with h | h
                · obtain ⟨c', g1, g2⟩ := takeD_get h
                  have : (l1.drop j).head? = some c' := by rw [List.head?_drop, g1]
                  cases e2 : l1.drop j with
                  | nil =>
                    rw [e2] at this
                    cases this
                  | cons x y =>
                    rw [e2] at this hr2
                    have ex : x = c' := Option.some.inj this
                    rw [ex] at hr2
                    exact absurd hr2 (by rw [show rng 48 57 (c' :: y) = isDig c' from rfl, g2]; decide)
                · omega
              | true =>
                have hjD : j < (takeD 30 l1).length := by
                  rcases Nat.lt_or_ge j (takeD 30 l1).length with h | h
                  · exact h
                  · have e : j = (takeD 30 l1).length := by omega
                    cases e2 : l1.drop j with
                    | nil =>
                      rw [e2] at hr2
                      cases hr2
                    | cons x y =>
                      have g1 : l1[j]? = some x := by rw [← List.head?_drop, e2]; rfl
                      have := takeD_stop 30 l1 (by omega) x (by rw [← e]; exact g1)
                      rw [e2, show rng 48 57 (x :: y) = isDig x from rfl, this] at hr2
                      cases hr2
                refine iteT ⟨fun σ' H' => ∃ m', m' < (takeD 30 l1).length - j ∧ ∃ j : Nat, σ' = [some (.str z), some (.int (p : Int)), some (.bl neg), some (.int (f : Int)), some (.int ((f + j : Nat) : Int))] ∧ H = H' ∧ j ≤ (takeD 30 l1).length ∧ m' = (takeD 30 l1).length - j, fun _ _ h => h, ?_⟩
                exact ⟨.int ((f + j : Nat) : Int), rfl, _, _, rfl, rfl, (takeD 30 l1).length - (j + 1), by omega, j + 1, rfl, rfl, hjD, rfl⟩
            · have : ¬ ((f + j : Nat) : Int) < (f : Int) + 30 := fun h => e (decide_eq_true h)
              omega
          · rintro σ H' ⟨rfl, eH⟩
            subst eH
            have e0 : takeD 30 l1 ≠ [] := fun h => by rw [h] at hD1; cases hD1
            have tx := num_txt hA hf (j := (takeD 30 l1).length) (by omega) (Nat.le_refl _)
            rw [List.take_length] at tx
            refine ⟨.str z, rfl, .int (p : Int), rfl, _, rfl, .int ((f + (takeD 30 l1).length : Nat) : Int), rfl, _, rfl, z, rfl, hl, _, sgn neg (digitsVal (takeD 30 l1)), rfl, ?_, ?_, .int ((f + (takeD 30 l1).length : Nat) : Int), rfl, (by decide : 2 ≤ sizeLine), fun t nt => ?_⟩
            · rw [tx]
              exact int_text all_digits e0 hD.1
            · rw [tx, S_len]
              split <;> first | omega | (simp only [List.length_cons]; omega)
            · refine q _ t (sgn neg (digitsVal (takeD 30 l1))) _ (same_upd nt) (by omega) ?_ upd_same
              rw [hI, ← drop1]
              rw [e1, rdN_cons, if_neg (by omega), if_pos hc]
/-! _single -/
def spSingle (C : Addr) : Sp := fun vs H Q E => ∃ (z : Str) (p : Nat), vs = [.str z, .int (p : Int)] ∧ p ≤ (cs z).length ∧ (cs z).length ≤ 1000000 ∧ ((cs z).drop p).head? ≠ some 40 ∧
  (∀ H' t (d : PyData) (v : V) (i : Nat), Same H H' → i ≤ (cs z).length → (∀ k, Rd (.one k) ((cs z).drop p) (some d) ((cs z).drop i)) → H' t = some (.tup [v, .int (i : Int)]) → Tg H' v d → Q (.ref t) H') ∧
  (∀ H' d (i : Nat), BadAt H H' d i → i ≤ (cs z).length → (∀ k, Rd (.one k) ((cs z).drop p) none ((cs z).drop i)) → E (.ref C) (some d) H')
theorem ok_single (T : Blt mg) (cM : Cst mg "MOST_DIGITS" (.int 30)) (B : TxBad K mg) (dP_quoted : DnQuoted K mg) (dP_written : DnWritten K mg) (d : DnSingle K mg) : FnOk P w K mg base (L2.CX P w) 4 d.f d.fd ["text", "place"] (spSingle B.C) := by
  have GP_quoted : FnOk P w K mg base (L2.CX P w) 3 dP_quoted.f dP_quoted.fd ["text", "place"] (spQuoted B.C) := ok_quoted T B dP_quoted
  have GP_written : FnOk P w K mg base (L2.CX P w) 3 dP_written.f dP_written.fd ["text", "place"] (spWritten B.C) := ok_written T cM B dP_written
  refine d.F.okX scP_single (fun vs H Q E h => ?_) (fun cdv A outer s H vs Q E hr h => ?_)
  · obtain ⟨z, p, rfl, _⟩ := h
    rfl
  · obtain ⟨z, p, rfl, hp, hz, h40, q, qe⟩ := h
    refine ⟨_, (pss_cons (ps_set (i := 2) scP_single.nd rfl (Or.inl rfl) (pe_slice sl_str (pv 0) (po_some (pv 1)) (po_some (pe_op op_add (pv 1) pe_int))))
    (pss_cons (ps_if (pt_cmpR op_eq (pv 2) pe_str (nomark _))
      (pss_one (ps_ret (pe_tup (pa_cons pe_non (pa_cons (pe_op op_add (pv 1) pe_int) pa_nil)))))
      pss_nil)
    (pss_cons (ps_if (pt_cmpR op_eq (pv 2) pe_str (nomark _))
      (pss_one (ps_ret (pe_call GP_quoted (hr.mono (by omega)) (by rfl) dP_quoted.g dP_quoted.F.kp dP_quoted.b .nil (passes_call (takes_of rfl rfl rfl rfl) (fun _ _ _ _ h => h)) (pa_cons (pv 0) (pa_cons (pe_op op_add (pv 1) pe_int) pa_nil)))))
      pss_nil)
    (pss_one (ps_ret (pe_call GP_written (hr.mono (by omega)) (by rfl) dP_written.g dP_written.F.kp dP_written.b .nil (passes_call (takes_of rfl rfl rfl rfl) (fun _ _ _ _ h => h)) (pa_cons (pv 0) (pa_cons (pv 1) pa_nil)))))))), ?_⟩
    refine rd_sg rfl rfl hz ?_
    have lt_of : ∀ {k}, ((cs z).drop p).head? = some k → ∃ r, p < (cs z).length ∧ (cs z).drop p = k :: r ∧ (cs z).drop (p + 1) = r := fun {k} h => by
      have hp2 : p < (cs z).length := by
        rcases Nat.lt_or_ge p (cs z).length with h' | h'
        · exact h'
        · rw [List.drop_eq_nil_of_le h'] at h
          cases h
      have ed := drop_at hp2
      rw [ed] at h
      have ec := Option.some.inj h
      exact ⟨_, hp2, by rw [ed, ec], rfl⟩
    refine ⟨.str (S (((cs z).drop p).take 1)), rfl, rfl, _, rfl, ?_⟩
    rw [sg1 q46]
    by_cases h46 : ((cs z).drop p).head? = some 46
    · rw [decide_eq_true h46]
      obtain ⟨r, hp2, e1, e2⟩ := lt_of h46
      refine iteT ⟨.int (p : Int), rfl, _, _, rfl, rfl, (by decide : 2 ≤ sizeLine), fun t nt => ?_⟩
      refine q _ t .none .non (p + 1) (same_upd nt) hp2 (fun k => ?_) upd_same .non
      rw [e1, e2]
      exact .dot k r
    · rw [decide_eq_false h46]
      refine iteF ⟨.str (S (((cs z).drop p).take 1)), rfl, rfl, _, rfl, ?_⟩
      rw [sg1 q39]
      by_cases h39 : ((cs z).drop p).head? = some 39
      · rw [decide_eq_true h39]
        obtain ⟨r, hp2, e1, e2⟩ := lt_of h39
        refine iteT ⟨.str z, rfl, .int (p : Int), rfl, _, _, rfl, rfl, z, p + 1, rfl, hp2, hz, fun H1 t l i s1 hi hrd et => ?_, fun H1 d i hb hi hrd => ?_⟩
        · refine q H1 t (.str (S l)) (.str (S l)) i s1 hi (fun k => ?_) et (.str (S l))
          have h := Rd.str k r
          rw [e1]
          rw [e2] at hrd
          rw [hrd] at h
          exact h
        · refine qe H1 d i hb hi (fun k => ?_)
          have h := Rd.str k r
          rw [e1]
          rw [e2] at hrd
          rw [hrd] at h
          exact h
      · rw [decide_eq_false h39]
        refine iteF ⟨.str z, rfl, .int (p : Int), rfl, z, p, rfl, hp, hz, fun H1 t n i s1 hi hrd et => ?_, fun H1 d i hb hi hrd => ?_⟩
        · refine q H1 t (.int n) (.int n) i s1 hi (fun k => ?_) et (.int n)
          cases e : (cs z).drop p with
          | nil =>
            rw [e] at hrd
            cases hrd
          | cons c r =>
            rw [e] at h40 h39 h46 hrd
            have h := Rd.int k c r (by simpa using h46) (by simpa using h39) (by simpa using h40)
            rw [hrd] at h
            exact h
        · refine qe H1 d i hb hi (fun k => ?_)
          cases e : (cs z).drop p with
          | nil =>
            rw [e] at hrd
            have : (cs z).drop i = [] := by
              have := congrArg Prod.snd hrd
              exact this.symm
            rw [this]
            exact .eof k
          | cons c r =>
            rw [e] at h40 h39 h46 hrd
            have h := Rd.int k c r (by simpa using h46) (by simpa using h39) (by simpa using h40)
            rw [hrd] at h
            exact h
end
end Kb

namespace Kb
open PySem PySem.Spec PyProof.Rows L2
open PySem.NumText (digitsVal AllDigits)
abbrev sP_left : Stmt := topS 17
abbrev NP_left : List Str := ["text", "place", "pile", "sign", "items"]
theorem scP_left : FnScope ["text", "place", "pile", "sign", "items"] ["text", "place", "pile"] (defScope sP_left) := ⟨rfl, rfl, rfl, by decide +kernel, rfl, by decide +kernel, by decide +kernel⟩
abbrev sP_entered : Stmt := topS 16
abbrev NP_entered : List Str := ["text", "place", "pile"]
theorem scP_entered : FnScope ["text", "place", "pile"] ["text", "place", "pile"] (defScope sP_entered) := ⟨rfl, rfl, rfl, by decide +kernel, rfl, by decide +kernel, by decide +kernel⟩
abbrev sP_unpacked : Stmt := topS 15
abbrev NP_unpacked : List Str := ["text", "pile", "place", "thing"]
theorem scP_unpacked : FnScope ["text", "pile", "place", "thing"] ["text"] (defScope sP_unpacked) := ⟨rfl, rfl, rfl, by decide +kernel, rfl, by decide +kernel, by decide +kernel⟩
theorem rdN_lt {neg : Bool} {l r : List Nat} {n : Int} (h : rdN neg l = (some n, r)) : r.length < l.length := by
  cases l with
  | nil => cases h
  | cons d t =>
    rw [rdN_cons] at h
    split at h
    · split at h
      · cases h
      · have e := congrArg Prod.snd h
        have e : t = r := e
        rw [← e]
        exact Nat.lt_succ_self _
    · split at h
      · rename_i h1
        have e := congrArg Prod.snd h
        have e : (d :: t).drop (takeD 30 (d :: t)).length = r := e
        rw [← e, List.length_drop, takeD, if_pos (isDig_iff.mpr (by omega))]
        simp only [List.length_cons]
        omega
      · cases h
theorem rdI_lt {l r : List Nat} {n : Int} (h : rdI l = (some n, r)) : r.length < l.length := by
  cases l with
  | nil => cases h
  | cons c t =>
    rw [rdI_cons] at h
    split at h
    · exact Nat.lt_succ_of_lt (rdN_lt h)
    · exact rdN_lt h
theorem Rd.lt {m : Md} {l : List Nat} {o : Option PyData} {r : List Nat} (h : Rd m l o r) : o ≠ none → r.length < l.length := by
  induction h with
  | eof k => exact fun h => absurd rfl h
  | dot k r => exact fun _ => Nat.lt_succ_self _
  | str k r => exact fun _ => Nat.lt_succ_of_le (rdS_len r [])
  | deep k r hk => exact fun h => absurd rfl h
  | tup0 k r hk => exact fun _ => Nat.lt_succ_of_lt (Nat.lt_succ_self _)
  | tup k r o1 r1 hk hh _ ih => exact fun h => Nat.lt_succ_of_lt (ih h)
  | int k c r h1 h2 h3 =>
    intro h
    cases e : rdI (c :: r) with
    | mk a b =>
      rw [e] at h
      cases a with
      | none => exact absurd rfl h
      | some n => exact rdI_lt e
  | bad k acc l r _ ih => exact fun h => absurd rfl h
  | close k acc l r d _ ih => exact fun _ => Nat.lt_of_succ_lt (ih (by simp))
  | next k acc l r d o1 r1 _ h2 ih ih2 =>
    intro _
    have h3 := ih (by simp)
    have h4 := h2.len
    simp only [List.length_cons] at h3
    omega
  | stop k acc l r d _ h41 h44 ih => exact fun h => absurd rfl h
/-! the pile -/
def Pile (H0 H : Hp) (pa : Addr) (accs : List (List PyData)) : Prop := ∃ bs : List Addr, H pa = some (.lst (bs.map V.ref)) ∧ bs.length = accs.length ∧ bs.Nodup ∧ pa ∉ bs ∧ Same H0 H ∧ H0 pa = none ∧ (∀ b ∈ bs, H0 b = none) ∧
  (∀ (i : Nat) (b : Addr) (acc : List PyData), bs[i]? = some b → accs[i]? = some acc → ∃ xs, H b = some (.lst xs) ∧ Tgs H xs acc)
theorem Pile.same {H0 H H' : Hp} {pa : Addr} {accs : List (List PyData)} (h : Pile H0 H pa accs) (s : Same H H') : Pile H0 H' pa accs := by
  obtain ⟨bs, h1, h2, h3, h4, h5, h6, h7, h8⟩ := h
  refine ⟨bs, s _ _ h1, h2, h3, h4, h5.trans s, h6, h7, fun i b acc e1 e2 => ?_⟩
  obtain ⟨xs, e, t⟩ := h8 i b acc e1 e2
  exact ⟨xs, s _ _ e, t.mono fun b zs e => s b _ e⟩
theorem Pile.base {H0 H : Hp} {pa : Addr} {accs : List (List PyData)} (h : Pile H0 H pa accs) : Same H0 H := by
  obtain ⟨bs, h1, h2, h3, h4, h5, _⟩ := h
  exact h5
/-- an empty list more -/
theorem Pile.push {H0 H : Hp} {pa nb : Addr} {accs : List (List PyData)} {bs : List Addr} (h1 : H pa = some (.lst (bs.map V.ref))) (h2 : bs.length = accs.length) (h3 : bs.Nodup) (h4 : pa ∉ bs) (h5 : Same H0 H) (h6 : H0 pa = none) (h7 : ∀ b ∈ bs, H0 b = none)
    (h8 : ∀ (i : Nat) (b : Addr) (acc : List PyData), bs[i]? = some b → accs[i]? = some acc → ∃ xs, H b = some (.lst xs) ∧ Tgs H xs acc) (hn : H nb = none) : Pile H0 (upd (upd H nb (.lst [])) pa (.lst (bs.map V.ref ++ [V.ref nb]))) pa (accs ++ [[]]) := by
  have hnp : nb ≠ pa := (ne_of_none h1 hn).symm
  have hnb : ∀ b ∈ bs, b ≠ nb := fun b hb e => by
    obtain ⟨i, hi, e2⟩ := List.getElem_of_mem hb
    have hi2 : i < accs.length := by omega
    obtain ⟨xs, e3, _⟩ := h8 i b accs[i] (by rw [List.getElem?_eq_getElem hi, e2]) (List.getElem?_eq_getElem hi2)
    rw [e, hn] at e3
    cases e3
  have hn0 : H0 nb = none := h5.free hn
  refine ⟨bs ++ [nb], ?_, ?_, ?_, ?_, fun b o e => ?_, h6, fun b hb => ?_, fun i b acc e1 e2 => ?_⟩
  · rw [upd_same, List.map_append]
    rfl
  · rw [List.length_append, List.length_append, h2]
    rfl
  · rw [List.nodup_append]
    refine ⟨h3, by simp, fun a ha b hb => ?_⟩
    rw [List.mem_singleton.mp hb]
    exact hnb a ha
  · intro h
    rcases List.mem_append.mp h with h | h
    · exact h4 h
    · exact hnp (List.mem_singleton.mp h).symm
  · rw [upd_ne (ne_of_none e h6), upd_ne (ne_of_none e hn0)]
    exact h5 b o e
  · rcases List.mem_append.mp hb with h | h
    · exact h7 b h
    · rw [List.mem_singleton.mp h]
      exact hn0
  · have keep : ∀ b zs, H b = some (.tup zs) → upd (upd H nb (.lst [])) pa (.lst (bs.map V.ref ++ [V.ref nb])) b = some (.tup zs) := fun b zs e => by
      rw [upd_ne (ne_of e h1 (by intro z; cases z)), upd_ne (ne_of_none e hn)]
      exact e
    by_cases hi : i < bs.length
    · rw [List.getElem?_append_left hi] at e1
      rw [List.getElem?_append_left (by omega)] at e2
      obtain ⟨xs, e, t⟩ := h8 i b acc e1 e2
      have hb := List.mem_of_getElem? e1
      refine ⟨xs, ?_, t.mono keep⟩
      rw [upd_ne (fun z => h4 (by rw [← z]; exact hb)), upd_ne (hnb b hb)]
      exact e
    · rw [List.getElem?_append_right (by omega)] at e1
      rw [List.getElem?_append_right (by omega), ← h2] at e2
      cases hj : i - bs.length with
      | zero =>
        rw [hj] at e1 e2
        cases e1
        cases e2
        refine ⟨[], ?_, rfl, fun i x d h _ => by cases h⟩
        rw [upd_ne hnp, upd_same]
      | succ j =>
        rw [hj] at e1
        cases e1
/-- the last list -/
theorem Pile.last {H0 H : Hp} {pa : Addr} {pre : List (List PyData)} {a : List PyData} (h : Pile H0 H pa (pre ++ [a])) : ∃ (bp : List Addr) (b : Addr) (xs : List V), H pa = some (.lst (bp.map V.ref ++ [V.ref b])) ∧ H b = some (.lst xs) ∧ Tgs H xs a ∧
    (∀ (v : V) (d : PyData), Tg H v d → Pile H0 (upd H b (.lst (xs ++ [v]))) pa (pre ++ [a ++ [d]])) ∧ Pile H0 (upd H pa (.lst (bp.map V.ref))) pa pre ∧ bp.length = pre.length ∧ b ≠ pa := by
  obtain ⟨bs, h1, h2, h3, h4, h5, h6, h7, h8⟩ := h
  rw [List.length_append] at h2
  have hne : bs ≠ [] := fun z => by
    rw [z] at h2
    cases h2
  obtain ⟨bp, b, rfl⟩ : ∃ bp b, bs = bp ++ [b] := ⟨bs.dropLast, bs.getLast hne, (List.dropLast_concat_getLast hne).symm⟩
  have hl : bp.length = pre.length := by
    rw [List.length_append] at h2
    simp only [List.length_cons, List.length_nil] at h2
    omega
  have hb0 : H0 b = none := h7 b (by simp)
  have hbp : b ≠ pa := fun z => h4 (by rw [z]; simp)
  rw [List.nodup_append] at h3
  obtain ⟨n1, _, n2⟩ := h3
  have nb : ∀ c ∈ bp, c ≠ b := fun c hc => n2 c hc b (by simp)
  have e1 : (bp ++ [b])[bp.length]? = some b := by simp
  have e2 : (pre ++ [a])[bp.length]? = some a := by rw [hl]; simp
  obtain ⟨xs, eb, tb⟩ := h8 _ b a e1 e2
  refine ⟨bp, b, xs, ?_, eb, tb, fun v d tv => ?_, ?_, hl, hbp⟩
  · rw [h1, List.map_append]
    rfl
  · refine ⟨bp ++ [b], ?_, ?_, ?_, h4, fun c o e => ?_, h6, h7, fun i c acc g1 g2 => ?_⟩
    · rw [upd_ne hbp.symm]
      exact h1
    · rw [List.length_append, List.length_append, hl]
      rfl
    · rw [List.nodup_append]
      exact ⟨n1, by simp, n2⟩
    · rw [upd_ne (ne_of_none e hb0)]
      exact h5 c o e
    · have keep : ∀ c zs, H c = some (.tup zs) → upd H b (.lst (xs ++ [v])) c = some (.tup zs) := tup_putl eb
      by_cases hi : i < bp.length
      · rw [List.getElem?_append_left hi] at g1
        rw [List.getElem?_append_left (by omega)] at g2
        obtain ⟨ys, e, t⟩ := h8 i c acc (by rw [List.getElem?_append_left hi]; exact g1) (by rw [List.getElem?_append_left (by omega)]; exact g2)
        refine ⟨ys, ?_, t.mono keep⟩
        rw [upd_ne (nb c (List.mem_of_getElem? g1))]
        exact e
      · rw [List.getElem?_append_right (by omega)] at g1
        rw [List.getElem?_append_right (by omega), ← hl] at g2
        cases hj : i - bp.length with
        | zero =>
          rw [hj] at g1 g2
          cases g1
          cases g2
          exact ⟨xs ++ [v], upd_same, (tb.snoc tv).mono keep⟩
        | succ j =>
          rw [hj] at g1
          cases g1
  · refine ⟨bp, upd_same, hl, n1, fun z => h4 (by simp [z]), fun c o e => ?_, h6, fun c hc => h7 c (by simp [hc]), fun i c acc g1 g2 => ?_⟩
    · rw [upd_ne (ne_of_none e h6)]
      exact h5 c o e
    · have hi : i < bp.length := (List.getElem?_eq_some_iff.mp g1).1
      obtain ⟨ys, e, t⟩ := h8 i c acc (by rw [List.getElem?_append_left hi]; exact g1) (by rw [List.getElem?_append_left (by omega)]; exact g2)
      refine ⟨ys, ?_, t.mono (tup_putl h1)⟩
      rw [upd_ne (fun z => h4 (by rw [← z]; exact List.mem_append_left _ (List.mem_of_getElem? g1)))]
      exact e
theorem Pile.len {H0 H : Hp} {pa : Addr} {accs : List (List PyData)} (h : Pile H0 H pa accs) : ∃ ys : List V, H pa = some (.lst ys) ∧ ys.length = accs.length := by
  obtain ⟨bs, h1, h2, _⟩ := h
  exact ⟨_, h1, by rw [List.length_map, h2]⟩
theorem Pile.first {H0 H : Hp} {pa : Addr} {a : List PyData} {r : List (List PyData)} (h : Pile H0 H pa (a :: r)) : ∃ (b : Addr) (ys : List V) (xs : List V), H pa = some (.lst (V.ref b :: ys)) ∧ H b = some (.lst xs) ∧ Tgs H xs a := by
  obtain ⟨bs, h1, h2, h3, h4, h5, h6, h7, h8⟩ := h
  cases bs with
  | nil => cases h2
  | cons b bs =>
    obtain ⟨xs, e, t⟩ := h8 0 b a rfl rfl
    exact ⟨b, bs.map V.ref, xs, h1, e, t⟩
def Good (R : Option PyData → List Nat → Prop) (accs : List (List PyData)) (l : List Nat) : Prop :=
  (∃ d, accs = [[d]] ∧ R (some d) l) ∨ (∃ st : List (List PyData), accs = [] :: st.reverse ∧ ∀ o r, SemK st l o r → R o r)
def GoodE (R : Option PyData → List Nat → Prop) (accs : List (List PyData)) (l : List Nat) : Prop :=
  (∃ d, accs = [[d]] ∧ R (some d) l) ∨ (∃ (cur : List PyData) (st : List (List PyData)), accs = [] :: (cur :: st).reverse ∧ ∀ o r, SemE cur st l o r → R o r)
/-- an item behind which it goes on -/
theorem good_item {R : Option PyData → List Nat → Prop} {st : List (List PyData)} {d : PyData} {l : List Nat} (h : ∀ o r, SemL st d l o r → R o r) :
    ∃ pre a, ([] :: st.reverse : List (List PyData)) = pre ++ [a] ∧ GoodE R (pre ++ [a ++ [d]]) l := by
  cases st with
  | nil => exact ⟨[], [], rfl, .inl ⟨d, rfl, h _ _ ⟨rfl, rfl⟩⟩⟩
  | cons acc st =>
    refine ⟨[] :: st.reverse, acc, by rw [List.reverse_cons]; rfl, .inr ⟨acc ++ [d], st, by rw [List.reverse_cons]; rfl, fun o r s => h o r (L_app s)⟩⟩
section
variable {P : Program} {w : World} {K : PySem.W.Frag} {mg : Str → Option Value} {base : Heap}
abbrev DnLeft (K : PySem.W.Frag) (mg : Str → Option Value) := Dn K mg "_left" sP_left ["text", "place", "pile"]
abbrev DnEntered (K : PySem.W.Frag) (mg : Str → Option Value) := Dn K mg "_entered" sP_entered ["text", "place", "pile"]
abbrev DnUnpackedP (K : PySem.W.Frag) (mg : Str → Option Value) := Dn K mg "unpacked" sP_unpacked ["text"]
/-! _left -/
def spLeft (C : Addr) : Sp := fun vs H Q E => ∃ (z : Str) (p : Nat) (pa : Addr) (H0 : Hp) (accs : List (List PyData)) (R : Option PyData → List Nat → Prop), vs = [.str z, .int (p : Int), .ref pa] ∧ p ≤ (cs z).length ∧ (cs z).length ≤ 1000000 ∧ Pile H0 H pa accs ∧ GoodE R accs ((cs z).drop p) ∧
  (∀ a ∈ accs, a.length ≤ p) ∧
  (∀ H' (i : Nat) (accs' : List (List PyData)), Pile H0 H' pa accs' → p ≤ i → i ≤ (cs z).length → Good R accs' ((cs z).drop i) → (∀ a ∈ accs', a.length ≤ i) → Q (.int (i : Int)) H') ∧
  (∀ H' d (i : Nat), BadAt H0 H' d i → i ≤ (cs z).length → R none ((cs z).drop i) → E (.ref C) (some d) H')
theorem head_drop {z : Str} {p k : Nat} (h : ((cs z).drop p).head? = some k) : ∃ r, p < (cs z).length ∧ (cs z).drop p = k :: r ∧ (cs z).drop (p + 1) = r := by
  have hp2 : p < (cs z).length := by
    rcases Nat.lt_or_ge p (cs z).length with h' | h'
    · exact h'
    · rw [List.drop_eq_nil_of_le h'] at h
      cases h
  have ed := drop_at hp2
  rw [ed] at h
  have ec := Option.some.inj h
  exact ⟨_, hp2, by rw [ed, ec], rfl⟩
theorem ne_eq (b : Bool) {x y : V} (h : decide (x = y) = b) : (!decide (x = y)) = !b := by rw [h]
theorem ok_left (T : Blt mg) (B : TxBad K mg) (d : DnLeft K mg) : FnOk P w K mg base (L2.CX P w) 3 d.f d.fd ["text", "place", "pile"] (spLeft B.C) := by
  have GInit : FnOk P w K mg base CX0 1 B.fI B.fdI ["self", "place"] (spInit B.C) := ok_init B
  refine d.F.okX scP_left (fun vs H Q E h => ?_) (fun cdv A outer s H vs Q E hr h => ?_)
  · obtain ⟨z, p, pa, H0, accs, R, rfl, _⟩ := h
    rfl
  · obtain ⟨z, p, pa, H0, accs, R, rfl, hp, hz, hpl, hg, hal, q, qe⟩ := h
    refine ⟨_, (pss_cons (ps_while (passes_of rfl) (pt_cmpR op_gt (pe_callB call_len_seq (by rfl) T.n_len (by decide +kernel) (pa_cons (pv 2) pa_nil)) pe_int (nomark _))
      (pss_cons (ps_set (i := 3) scP_left.nd rfl (Or.inl rfl) (pe_slice sl_str (pv 0) (po_some (pv 1)) (po_some (pe_op op_add (pv 1) pe_int))))
      (pss_cons (ps_if (pt_cmpR op_eq (pv 3) pe_str (nomark _))
        (pss_one (ps_ret (pe_op op_add (pv 1) pe_int)))
        pss_nil)
      (pss_cons (ps_if (pt_cmpR op_ne (pv 3) pe_str (nomark _))
        (pss_one (ps_raise rfl (takes_of rfl rfl rfl rfl) (pmk_oex B.oex B.iC B.tI GInit (hr.mono (by omega)) B.b .nil pass0 rfl B.gC (pa_cons (pv 1) pa_nil))))
        pss_nil)
      (pss_cons (ps_set (i := 4) scP_left.nd rfl (Or.inl rfl) (pe_bm0 PySem.F.plainAttrs_list PySem.F.slot_list_pop PySem.F.type_list_pop mt_pop (pv 2)))
      (pss_cons (ps_expr (pe_bm PySem.F.plainAttrs_list PySem.F.slot_list_append PySem.F.type_list_append mt_append (pe_ix ix_list (pv 2) (pe_un un_neg pe_int) (fun _ _ => rfl)) (pa_cons (pe_callTy call_tuple_of (by rfl) T.n_tuple (by decide +kernel) (pa_cons (pv 4) pa_nil)) pa_nil)))
      (pss_one (ps_aug (i := 1) scP_left.nd rfl (Or.inl rfl) pe_int ip_add))))))))
    (pss_one (ps_ret (pv 1)))), ?_⟩
    refine ⟨fun m σ H' => ∃ (i : Nat) (accs' : List (List PyData)) (y3 y4 : Option V), σ = [some (.str z), some (.int (i : Int)), some (.ref pa), y3, y4] ∧ Pile H0 H' pa accs' ∧ p ≤ i ∧ i ≤ (cs z).length ∧ GoodE R accs' ((cs z).drop i) ∧ (∀ a ∈ accs', a.length ≤ i) ∧ m = accs'.length,
      ⟨_, p, accs, none, none, rfl, hpl, Nat.le_refl _, hp, hg, hal, rfl⟩, ?_⟩
    rintro m σ H1 ⟨i, accs, y3, y4, rfl, hpl, hpi, hi, hg, hal, rfl⟩
    obtain ⟨ys, ep, el⟩ := hpl.len
    refine ⟨.ref pa, rfl, pa, ys, rfl, .inl (sql ep), _, _, rfl, rfl, _, rfl, ite2 (fun e => ?_) (fun e => ?_)⟩
    · have hlen : 1 < accs.length := by
        have := of_decide_eq_true e
        omega
      rcases hg with ⟨d, rfl, _⟩ | ⟨cur, st, rfl, hR⟩
      · simp at hlen
      refine ⟨fun σ' H' => ∃ m', m' < ([] :: (cur :: st).reverse : List (List PyData)).length ∧ ∃ (i : Nat) (accs' : List (List PyData)) (y3 y4 : Option V), σ' = [some (.str z), some (.int (i : Int)), some (.ref pa), y3, y4] ∧ Pile H0 H' pa accs' ∧ p ≤ i ∧ i ≤ (cs z).length ∧ GoodE R accs' ((cs z).drop i) ∧ (∀ a ∈ accs', a.length ≤ i) ∧ m' = accs'.length, fun _ _ h => h, ?_⟩
      refine rd_sg rfl rfl hz ⟨.str (S (((cs z).drop i).take 1)), rfl, rfl, _, rfl, ?_⟩
      rw [sg1 q44]
      by_cases h44 : ((cs z).drop i).head? = some 44
      · rw [decide_eq_true h44]
        obtain ⟨r, hi2, e1, e2⟩ := head_drop h44
        refine iteT ⟨.int (i : Int), rfl, _, _, rfl, rfl, ?_⟩
        refine q H1 (i + 1) _ hpl (by omega) hi2 (.inr ⟨cur :: st, rfl, fun o r s => hR o r (.inr (.inl ⟨_, ?_, s⟩))⟩) (fun a ha => Nat.le_succ_of_le (hal a ha))
        rw [e1, e2]
      · rw [decide_eq_false h44]
        refine iteF ⟨.str (S (((cs z).drop i).take 1)), rfl, rfl, _, rfl, ?_⟩
        rw [sg1 q41]
        by_cases h41 : ((cs z).drop i).head? = some 41
        · rw [decide_eq_true h41]
          obtain ⟨r, hi2, e1, e2⟩ := head_drop h41
          refine iteF ?_
          have eacc : ([] :: (cur :: st).reverse : List (List PyData)) = ([] :: st.reverse) ++ [cur] := by rw [List.reverse_cons]; rfl
          rw [eacc] at hpl
          obtain ⟨bp, b, xs, f1, f2, f3, _, f5, f6, f7⟩ := hpl.last
          -- items = pile.pop()
          refine ⟨.ref pa, rfl, .inl ⟨rfl, _, sql f1⟩, pa, _, .ref b, rfl, rfl, f1, ?_, ?_⟩
          · simp
          have ed : (bp.map V.ref ++ [V.ref b]).dropLast = bp.map V.ref := List.dropLast_concat
          rw [ed]
          have fb : (upd H1 pa (.lst (bp.map V.ref))) b = some (.lst xs) := by
            rw [upd_ne f7]
            exact f2
          have f3' := f3.mono (tup_putl (ys := bp.map V.ref) f1)
          -- the item behind which it goes on
          obtain ⟨pre, a, g1, g2⟩ := good_item (R := R) (st := st) (d := .tuple cur) (l := (cs z).drop (i + 1)) fun o r s => hR o r (.inl ⟨_, by rw [e1, e2], s⟩)
          rw [g1] at f5
          obtain ⟨bp2, b2, xs2, k1, k2, k3, k4, _, k6, k7⟩ := f5.last
          -- pile[-1].append(tuple(items))
          refine ⟨.ref pa, rfl, _, rfl, pa, _, -1, .ref b2, rfl, rfl, sql k1, atI_last _ _, .inl ⟨rfl, _, sql k2⟩, ?_⟩
          refine ⟨.ref b, rfl, b, xs, rfl, .inl ⟨sql fb, fun tp ntp => ?_⟩⟩
          have sT : Same (upd H1 pa (.lst (bp.map V.ref))) (upd (upd H1 pa (.lst (bp.map V.ref))) tp (.tup xs)) := same_upd ntp
          have f5' := f5.same sT
          obtain ⟨bp3, b3, xs3, m1, m2, m3, m4, _, m6, m7⟩ := f5'.last
          have eb : b3 = b2 := by
            have h1 := sT _ _ k1
            rw [m1] at h1
            have h2 : bp3.map V.ref ++ [V.ref b3] = bp2.map V.ref ++ [V.ref b2] := by
              injection h1 with h1
              injection h1
            have h3 := congrArg (fun l => l.getLast?) h2
            simpa using h3
          subst eb
          have tv : Tg (upd (upd H1 pa (.lst (bp.map V.ref))) tp (.tup xs)) (.ref tp) (.tuple cur) := .tup upd_same f3'.1 fun i x d h1 h2 => (f3'.2 i x d h1 h2).same sT
          refine ⟨b3, xs3, .ref tp, rfl, rfl, m2, ?_, .int (i : Int), rfl, _, _, rfl, rfl, ?_⟩
          · have ha : a ∈ ([] :: (cur :: st).reverse : List (List PyData)) := by
              rw [eacc, g1]
              simp
            have := hal a ha
            have h2 := m3.1
            rw [h2, sizeLine_eq]
            omega
          · refine ⟨(pre ++ [a ++ [PyData.tuple cur]]).length, ?_, i + 1, pre ++ [a ++ [PyData.tuple cur]], _, _, rfl, m4 _ _ tv, by omega, hi2, g2, fun x hx => ?_, rfl⟩
            · have := congrArg List.length g1
              have h2 := congrArg List.length eacc
              simp only [List.length_append, List.length_cons, List.length_nil] at this h2 ⊢
              omega
            · rcases List.mem_append.mp hx with hx | hx
              · have : x ∈ ([] :: (cur :: st).reverse : List (List PyData)) := by
                  rw [eacc, g1]
                  simp [hx]
                exact Nat.le_succ_of_le (hal x this)
              · rw [List.mem_singleton.mp hx, List.length_append]
                have : a ∈ ([] :: (cur :: st).reverse : List (List PyData)) := by
                  rw [eacc, g1]
                  simp
                have := hal a this
                show a.length + 1 ≤ _
                omega
        · rw [decide_eq_false h41]
          refine iteT ⟨.int (i : Int), rfl, bad_post fun d H' s' e' => qe H' d i ⟨hpl.base.trans s', e'⟩ hi (hR _ _ (.inr (.inr ⟨h41, h44, rfl, rfl⟩)))⟩
    · have hlen : accs.length ≤ 1 := by
        have : ¬ ((1 : Int) < (ys.length : Int)) := fun h => e (decide_eq_true h)
        omega
      rcases hg with ⟨d, rfl, hR⟩ | ⟨cur, st, rfl, _⟩
      · exact ⟨.int (i : Int), rfl, q H1 i _ hpl hpi hi (.inl ⟨d, rfl, hR⟩) hal⟩
      · simp at hlen
/-! _entered -/
def spEntered (C : Addr) : Sp := fun vs H Q E => ∃ (z : Str) (p : Nat) (pa : Addr) (H0 : Hp) (st : List (List PyData)) (R : Option PyData → List Nat → Prop), vs = [.str z, .int (p : Int), .ref pa] ∧ ((cs z).drop p).head? = some 40 ∧ (cs z).length ≤ 1000000 ∧ Pile H0 H pa ([] :: st.reverse) ∧ (∀ o r, SemK st ((cs z).drop p) o r → R o r) ∧
  (∀ a ∈ st, a.length ≤ p) ∧
  (∀ H' (i : Nat) (accs' : List (List PyData)), Pile H0 H' pa accs' → p < i → i ≤ (cs z).length → Good R accs' ((cs z).drop i) → (∀ a ∈ accs', a.length ≤ i) → Q (.int (i : Int)) H') ∧
  (∀ H' d (i : Nat), BadAt H0 H' d i → i ≤ (cs z).length → R none ((cs z).drop i) → E (.ref C) (some d) H')
theorem cut1s (z : Str) (p : Nat) : cutS z (some ((p : Int) + 1)) (some ((p : Int) + 2)) = S (((cs z).drop (p + 1)).take 1) := by
  rw [← cut1' z (p + 1), show ((p + 1 : Nat) : Int) = (p : Int) + 1 by omega, show (p : Int) + 1 + 1 = (p : Int) + 2 by omega]
theorem ok_entered (T : Blt mg) (cD : Cst mg "DEEPEST" (.int 30)) (B : TxBad K mg) (dP_left : DnLeft K mg) (d : DnEntered K mg) : FnOk P w K mg base (L2.CX P w) 4 d.f d.fd ["text", "place", "pile"] (spEntered B.C) := by
  have GInit : FnOk P w K mg base CX0 1 B.fI B.fdI ["self", "place"] (spInit B.C) := ok_init B
  have GP_left : FnOk P w K mg base (L2.CX P w) 3 dP_left.f dP_left.fd ["text", "place", "pile"] (spLeft B.C) := ok_left T B dP_left
  obtain ⟨uD, gDEEPEST, rDEEPEST⟩ := cD
  refine d.F.okX scP_entered (fun vs H Q E h => ?_) (fun cdv A outer s H vs Q E hr h => ?_)
  · obtain ⟨z, p, pa, H0, accs, R, rfl, _⟩ := h
    rfl
  · obtain ⟨z, p, pa, H0, st, R, rfl, h40, hz, hpl, hR, hal, q, qe⟩ := h
    have hl : z.length ≤ sizeLine := by rw [sizeLine_eq, ← cs_len]; omega
    refine ⟨_, (pss_cons (ps_if (pt_cmpR op_gt (pe_callB call_len_seq (by rfl) T.n_len (by decide +kernel) (pa_cons (pv 2) pa_nil)) (pe_glob rfl gDEEPEST rDEEPEST) (nomark _))
      (pss_one (ps_raise rfl (takes_of rfl rfl rfl rfl) (pmk_oex B.oex B.iC B.tI GInit (hr.mono (by omega)) B.b .nil pass0 rfl B.gC (pa_cons (pv 1) pa_nil))))
      pss_nil)
    (pss_cons (ps_expr (pe_bm PySem.F.plainAttrs_list PySem.F.slot_list_append PySem.F.type_list_append mt_append (pv 2) (pa_cons (pe_lst pa_nil) pa_nil)))
    (pss_cons (ps_if (pt_cmpR op_eq (pe_slice sl_str (pv 0) (po_some (pe_op op_add (pv 1) pe_int)) (po_some (pe_op op_add (pv 1) pe_int))) pe_str (nomark _))
      (pss_one (ps_ret (pe_call GP_left (hr.mono (by omega)) (by rfl) dP_left.g dP_left.F.kp dP_left.b .nil (passes_call (takes_of rfl rfl rfl rfl) (fun _ _ _ _ h => h)) (pa_cons (pv 0) (pa_cons (pe_op op_add (pv 1) pe_int) (pa_cons (pv 2) pa_nil))))))
      pss_nil)
    (pss_one (ps_ret (pe_op op_add (pv 1) pe_int)))))), ?_⟩
    obtain ⟨r, hp2, e1, e2⟩ := head_drop h40
    rw [e1] at hR
    obtain ⟨ys, ep, el⟩ := hpl.len
    have el2 : ys.length = st.length + 1 := by
      rw [el, List.length_cons, List.length_reverse]
    refine ⟨.ref pa, rfl, pa, ys, rfl, .inl (sql ep), _, _, rfl, rfl, _, rfl, ite2 (fun e => ?_) (fun e => ?_)⟩
    · have h30 : 30 ≤ st.length := by
        have := of_decide_eq_true e
        omega
      refine ⟨.int (p : Int), rfl, bad_post fun d H' s' e' => qe H' d p ⟨hpl.base.trans s', e'⟩ (by omega) ?_⟩
      rw [e1]
      exact hR _ _ (K_bad (.deep _ _ h30))
    · have h30 : st.length < 30 := by
        have : ¬ ((30 : Int) < (ys.length : Int)) := fun h => e (decide_eq_true h)
        omega
      obtain ⟨bs, f1, f2, f3, f4, f5, f6, f7, f8⟩ := hpl
      refine ⟨.ref pa, rfl, .inl ⟨rfl, _, sql f1⟩, Nat.zero_le _, fun nb nn => ⟨pa, bs.map V.ref, .ref nb, rfl, rfl, ?_, ?_, ?_⟩⟩
      · rw [upd_ne (ne_of_none f1 nn)]
        exact f1
      · rw [List.length_map, f2, List.length_cons, List.length_reverse, sizeLine_eq]
        omega
      · have hp' := Pile.push f1 f2 f3 f4 f5 f6 f7 f8 nn
        have eacc : ([] :: st.reverse ++ [[]] : List (List PyData)) = [] :: ([] :: st).reverse := by rw [List.reverse_cons]; rfl
        rw [eacc] at hp'
        refine ⟨.str z, rfl, .int (p : Int), rfl, _, _, rfl, rfl, _, rfl, .int (p : Int), rfl, _, _, rfl, rfl, _, rfl, z, rfl, hl, rfl, _, rfl, ?_⟩
        rw [cut1s, sg1 q41]
        by_cases h41 : ((cs z).drop (p + 1)).head? = some 41
        · rw [decide_eq_true h41]
          obtain ⟨r2, hp3, e3, e4⟩ := head_drop h41
          refine iteT ⟨.str z, rfl, .int (p : Int), rfl, _, _, rfl, rfl, .ref pa, rfl, z, p + 1, pa, H0, _, R, rfl, hp2, hz, hp', .inr ⟨[], st, rfl, fun o r s => hR o r ?_⟩, fun a ha => ?_, fun H' i accs' h1 h2 h3 h4 h5 => q H' i accs' h1 (by omega) h3 h4 h5, fun H' d i h1 h2 h3 => qe H' d i h1 h2 h3⟩
          · rcases s with ⟨r3, g1, g2⟩ | ⟨r3, g1, g2⟩ | ⟨g1, _⟩
            · rw [g1] at e2
              rw [← e2]
              exact K_one (.tup0 _ _ h30) g2
            · rw [e3] at g1
              cases g1
            · exact absurd h41 g1
          · rw [List.reverse_cons] at ha
            simp only [List.mem_cons, List.mem_append, List.mem_reverse, List.not_mem_nil, or_false] at ha
            rcases ha with rfl | ha | rfl
            · exact Nat.zero_le _
            · exact Nat.le_succ_of_le (hal a ha)
            · exact Nat.zero_le _
        · rw [decide_eq_false h41]
          refine iteF ⟨.int (p : Int), rfl, _, _, rfl, rfl, q _ (p + 1) _ hp' (by omega) hp2 (.inr ⟨[] :: st, rfl, fun o r s => hR o r (K_open h30 (by rw [← e2]; exact h41) (by rw [← e2]; exact s))⟩) fun a ha => ?_⟩
          rw [List.reverse_cons] at ha
          simp only [List.mem_cons, List.mem_append, List.mem_reverse, List.not_mem_nil, or_false] at ha
          rcases ha with rfl | ha | rfl
          · exact Nat.zero_le _
          · exact Nat.le_succ_of_le (hal a ha)
          · exact Nat.zero_le _
/-! unpacked -/
def spUnpackedP (K : PySem.W.Frag) (C : Addr) : Sp := fun vs H Q E => ∃ (v : V), vs = [v] ∧
  ((∃ z : Str, v = .str z ∧ (cs z).length ≤ 1000000 ∧
    (∀ H' (d : PyData) (u : V), Same H H' → Un (cs z) (some d) (cs z).length → Tg H' u d → Q u H') ∧
    (∀ H' d (i : Nat), BadAt H H' d i → Un (cs z) none i → E (.ref C) (some d) H')) ∨
   (∃ t, TyX K H v (.type t) ∧ kitB t "str" = some false ∧ ∀ H' d, Same H H' → H' d = some (.xd [(("place" : Str), .int (-1))]) → E (.ref C) (some d) H'))
theorem ok_unpackedP (T : Blt mg) (cD : Cst mg "DEEPEST" (.int 30)) (cM : Cst mg "MOST_DIGITS" (.int 30)) (B : TxBad K mg) (dP_quoted : DnQuoted K mg) (dP_written : DnWritten K mg) (dP_single : DnSingle K mg) (dP_left : DnLeft K mg) (dP_entered : DnEntered K mg) (d : DnUnpackedP K mg) :
    FnOk P w K mg base (L2.CX P w) 5 d.f d.fd ["text"] (spUnpackedP K B.C) := by
  have GInit : FnOk P w K mg base CX0 1 B.fI B.fdI ["self", "place"] (spInit B.C) := ok_init B
  have GP_left : FnOk P w K mg base (L2.CX P w) 3 dP_left.f dP_left.fd ["text", "place", "pile"] (spLeft B.C) := ok_left T B dP_left
  have GP_entered : FnOk P w K mg base (L2.CX P w) 4 dP_entered.f dP_entered.fd ["text", "place", "pile"] (spEntered B.C) := ok_entered T cD B dP_left dP_entered
  have GP_single : FnOk P w K mg base (L2.CX P w) 4 dP_single.f dP_single.fd ["text", "place"] (spSingle B.C) := ok_single T cM B dP_quoted dP_written dP_single
  refine d.F.okX scP_unpacked (fun vs H Q E h => ?_) (fun cdv A outer s H vs Q E hr h => ?_)
  · obtain ⟨v, rfl, _⟩ := h
    rfl
  · obtain ⟨v, rfl, h⟩ := h
    refine ⟨_, (pss_cons (ps_if (pt_not (pt_val (pe_callB call_isi (by rfl) T.n_isinstance (by decide +kernel) (pa_cons (pv 0) (pa_cons (pe_bltn (v := .ty "str") (by rfl) T.n_str (by decide +kernel) rfl) pa_nil)))))
      (pss_one (ps_raise rfl (takes_of rfl rfl rfl rfl) (pmk_oex B.oex B.iC B.tI GInit (hr.mono (by omega)) B.b .nil pass0 rfl B.gC (pa_cons (pe_un un_neg pe_int) pa_nil))))
      pss_nil)
    (pss_cons (ps_set (i := 1) scP_unpacked.nd rfl (Or.inl rfl) (pe_lst (pa_cons (pe_lst pa_nil) pa_nil)))
    (pss_cons (ps_set (i := 2) scP_unpacked.nd rfl (Or.inl rfl) pe_int)
    (C8.pss_cut (ps_while (passes_of rfl) (pt_not (pt_truth (pe_ix ix_list (pv 1) pe_int (fun _ _ => rfl)) (by intro _; rfl)))
      (pss_one (ps_if (pt_cmpR op_eq (pe_slice sl_str (pv 0) (po_some (pv 2)) (po_some (pe_op op_add (pv 2) pe_int))) pe_str (nomark _))
        (pss_one (ps_set (i := 2) scP_unpacked.nd rfl (Or.inl rfl) (pe_call GP_entered (hr.mono (by omega)) (by rfl) dP_entered.g dP_entered.F.kp dP_entered.b .nil (passes_call (takes_of rfl rfl rfl rfl) (fun _ _ _ _ h => h)) (pa_cons (pv 0) (pa_cons (pv 2) (pa_cons (pv 1) pa_nil))))))
        (pss_cons (ps_asg (pe_call GP_single (hr.mono (by omega)) (by rfl) dP_single.g dP_single.F.kp dP_single.b .nil (passes_call (takes_of rfl rfl rfl rfl) (fun _ _ _ _ h => h)) (pa_cons (pv 0) (pa_cons (pv 2) pa_nil))) (pg_tup (by rfl) (pgs_cons (pg_name (i := 3) scP_unpacked.nd rfl (Or.inl rfl)) (pgs_cons (pg_name (i := 2) scP_unpacked.nd rfl (Or.inl rfl)) pgs_nil))))
        (pss_cons (ps_expr (pe_bm PySem.F.plainAttrs_list PySem.F.slot_list_append PySem.F.type_list_append mt_append (pe_ix ix_list (pv 1) (pe_un un_neg pe_int) (fun _ _ => rfl)) (pa_cons (pv 3) pa_nil)))
        (pss_one (ps_set (i := 2) scP_unpacked.nd rfl (Or.inl rfl) (pe_call GP_left (hr.mono (by omega)) (by rfl) dP_left.g dP_left.F.kp dP_left.b .nil (passes_call (takes_of rfl rfl rfl rfl) (fun _ _ _ _ h => h)) (pa_cons (pv 0) (pa_cons (pv 2) (pa_cons (pv 1) pa_nil)))))))))))
    (pss_cons (ps_if (pt_cmpR op_lt (pv 2) (pe_callB call_len_str (by rfl) T.n_len (by decide +kernel) (pa_cons (pv 0) pa_nil)) (nomark _))
      (pss_one (ps_raise rfl (takes_of rfl rfl rfl rfl) (pmk_oex B.oex B.iC B.tI GInit (hr.mono (by omega)) B.b .nil pass0 rfl B.gC (pa_cons (pv 2) pa_nil))))
      pss_nil)
    (pss_one (ps_ret (pe_ix ix_list (pe_ix ix_list (pv 1) pe_int (fun _ _ => rfl)) pe_int (fun _ _ => rfl))))))))), ?_⟩
    rcases h with ⟨z, rfl, hz, q, qe⟩ | ⟨t, ty, k, qe⟩
    · have hl : z.length ≤ sizeLine := by rw [sizeLine_eq, ← cs_len]; omega
      have hlz := cs_len z
      refine ⟨.str z, rfl, .str z, _, _, _, true, rfl, .ty "str", .base (.str z), kit_ty (by decide +kernel), true, rfl, iteF ?_⟩
      -- pile = [[]], place = 0
      refine ⟨Nat.zero_le _, fun b0 n0 => ⟨(by decide : 1 ≤ sizeLine), fun pa np => ?_⟩⟩
      have hb0 : b0 ≠ pa := ne_of_none upd_same np
      have hpile : Pile H (upd (upd H b0 (.lst [])) pa (.lst [.ref b0])) pa [[]] := by
        refine ⟨[b0], upd_same, rfl, by simp, by simpa using hb0.symm, (same_upd n0).trans (same_upd np), (same_upd n0).free np, by simpa using n0, fun i b acc e1 e2 => ?_⟩
        cases i with
        | zero =>
          cases e1
          cases e2
          refine ⟨[], ?_, rfl, fun i x d h _ => by cases h⟩
          rw [upd_ne hb0, upd_same]
        | succ i => cases e1
      generalize hH1 : upd (upd H b0 (.lst [])) pa (.lst [.ref b0]) = H1 at hpile
      refine ⟨fun σ H' => ∃ (i : Nat) (d : PyData) (y3 : Option V), σ = [some (.str z), some (.ref pa), some (.int (i : Int)), y3] ∧ Pile H H' pa [[d]] ∧ i ≤ (cs z).length ∧ Rd (.one 0) (cs z) (some d) ((cs z).drop i), ?_, ?_⟩
      · refine ⟨fun m σ H' => ∃ (i : Nat) (accs : List (List PyData)) (y3 : Option V), σ = [some (.str z), some (.ref pa), some (.int (i : Int)), y3] ∧ Pile H H' pa accs ∧ i ≤ (cs z).length ∧ Good (Rd (.one 0) (cs z)) accs ((cs z).drop i) ∧ (∀ a ∈ accs, a.length ≤ i) ∧ m = (cs z).length - i,
          ⟨_, 0, [[]], none, rfl, hpile, Nat.zero_le _, .inr ⟨[], rfl, fun o r s => s⟩, by simp, rfl⟩, ?_⟩
        rintro m σ H2 ⟨i, accs, y3, rfl, hpl, hi, hg, hal, rfl⟩
        rcases hg with ⟨d, rfl, hR⟩ | ⟨st, rfl, hR⟩
        · obtain ⟨b, ys, xs, f1, f2, f3⟩ := hpl.first
          have hxs : (!xs.isEmpty) = true := by
            cases xs with
            | nil => cases f3.1
            | cons => rfl
          refine ⟨.ref pa, rfl, pa, _, _, .ref b, rfl, rfl, sql f1, atI_nat (j := 0) rfl, true, .inl ⟨xs, sql f2, hxs.symm⟩, iteF ⟨i, d, y3, rfl, hpl, hi, hR⟩⟩
        · obtain ⟨b, ys, xs, f1, f2, f3⟩ := hpl.first
          have hxs : (!xs.isEmpty) = false := by
            cases xs with
            | nil => rfl
            | cons => cases f3.1
          refine ⟨.ref pa, rfl, pa, _, _, .ref b, rfl, rfl, sql f1, atI_nat (j := 0) rfl, false, .inl ⟨xs, sql f2, hxs.symm⟩, iteT ?_⟩
          refine ⟨fun σ' H' => ∃ m', m' < (cs z).length - i ∧ ∃ (i : Nat) (accs : List (List PyData)) (y3 : Option V), σ' = [some (.str z), some (.ref pa), some (.int (i : Int)), y3] ∧ Pile H H' pa accs ∧ i ≤ (cs z).length ∧ Good (Rd (.one 0) (cs z)) accs ((cs z).drop i) ∧ (∀ a ∈ accs, a.length ≤ i) ∧ m' = (cs z).length - i, fun _ _ h => h, ?_⟩
          refine rd_sg rfl rfl hz ⟨rfl, _, rfl, ?_⟩
          rw [sg1 q40]
          have bad : ∀ {H' : Hp} {d j}, BadAt H H' d j → j ≤ (cs z).length → Rd (.one 0) (cs z) none ((cs z).drop j) → E (.ref B.C) (some d) H' := fun h1 h2 h3 => qe _ _ _ h1 (.bad h2 h3)
          by_cases h40 : ((cs z).drop i).head? = some 40
          · rw [decide_eq_true h40]
            obtain ⟨r, hi2, e1, e2⟩ := head_drop h40
            refine iteT ⟨.str z, rfl, .int (i : Int), rfl, .ref pa, rfl, z, i, pa, H, st, Rd (.one 0) (cs z), rfl, h40, hz, hpl, hR, fun a ha => hal a ?_, fun H' j accs' h1 h2 h3 h4 h5 => ⟨(cs z).length - j, by omega, j, accs', _, rfl, h1, h3, h4, h5, rfl⟩, fun H' d j h1 h2 h3 => bad h1 h2 h3⟩
            simp [ha]
          · rw [decide_eq_false h40]
            refine iteF ⟨.str z, rfl, .int (i : Int), rfl, z, i, rfl, hi, hz, h40, fun H3 t d v j s3 hj hrd et tv => ?_, fun H' d j hb hj hrd => bad ⟨hpl.base.trans hb.1, hb.2⟩ hj (hR _ _ (K_bad (hrd _)))⟩
            refine ⟨t, _, rfl, .inl (.inl et), rfl, v, _, rfl, .int (j : Int), _, rfl, rfl, ?_⟩
            have hij : i < j := by
              have := (hrd 0).lt (by simp)
              rw [List.length_drop, List.length_drop] at this
              omega
            obtain ⟨pre, a, g1, g2⟩ := good_item (R := Rd (.one 0) (cs z)) (st := st) (d := d) (l := (cs z).drop j) fun o r s => hR o r (K_one (hrd _) s)
            have hpl3 := hpl.same s3
            have ha : ∀ x, x ∈ ([] :: st.reverse : List (List PyData)) → x.length ≤ i := hal
            rw [g1] at hpl3 ha
            obtain ⟨bp, b2, xs2, k1, k2, k3, k4, _, k6, k7⟩ := hpl3.last
            -- pile[-1].append(thing)
            refine ⟨.ref pa, rfl, _, rfl, pa, _, -1, .ref b2, rfl, rfl, sql k1, atI_last _ _, .inl ⟨rfl, _, sql k2⟩, v, rfl, b2, xs2, v, rfl, rfl, k2, ?_, ?_⟩
            · rw [k3.1, sizeLine_eq]
              have := ha a (by simp)
              omega
            · refine ⟨.str z, rfl, .int (j : Int), rfl, .ref pa, rfl, z, j, pa, H, _, Rd (.one 0) (cs z), rfl, hj, hz, k4 _ _ tv, g2, fun x hx => ?_, fun H' j2 accs' h1 h2 h3 h4 h5 => ⟨(cs z).length - j2, by omega, j2, accs', _, rfl, h1, h3, h4, h5, rfl⟩, fun H' d j h1 h2 h3 => bad h1 h2 h3⟩
              rcases List.mem_append.mp hx with hx | hx
              · have := ha x (by simp [hx])
                omega
              · rw [List.mem_singleton.mp hx, List.length_append]
                have := ha a (by simp)
                show a.length + 1 ≤ _
                omega
      · rintro σ H2 ⟨i, d, y3, rfl, hpl, hi, hrd⟩
        refine ⟨.int (i : Int), rfl, .str z, rfl, _, rfl, hl, _, _, rfl, rfl, _, rfl, ite2 (fun e => ?_) (fun e => ?_)⟩
        · have hi2 : i < (cs z).length := by
            have := of_decide_eq_true e
            omega
          exact ⟨.int (i : Int), rfl, bad_post fun d' H' s' e' => qe H' d' i ⟨hpl.base.trans s', e'⟩ (.rest hi2 hrd)⟩
        · have ei : i = (cs z).length := by
            have : ¬ ((i : Int) < (z.length : Int)) := fun h => e (decide_eq_true h)
            omega
          obtain ⟨b, ys, xs, f1, f2, f3⟩ := hpl.first
          have hx : xs.length = 1 := f3.1
          obtain ⟨v, rfl⟩ : ∃ v, xs = [v] := by
            cases xs with
            | nil => cases hx
            | cons v r =>
              cases r with
              | nil => exact ⟨v, rfl⟩
              | cons => simp at hx
          have tv : Tg H2 v d := f3.2 0 v d rfl rfl
          refine ⟨.ref pa, rfl, pa, _, _, .ref b, rfl, rfl, sql f1, atI_nat (j := 0) rfl, b, _, _, v, rfl, rfl, sql f2, atI_nat (j := 0) rfl, q H2 d v hpl.base (.ok ?_) tv⟩
          rw [ei, List.drop_length] at hrd
          exact hrd
    · exact ⟨v, rfl, v, _, _, _, false, rfl, .ty "str", ty, kit_ty k, false, rfl, iteT ⟨_, rfl, bad_post fun d H' s' e' => qe H' d s' e'⟩⟩
end
end Kb

namespace Kb
open PySem PySem.Spec PyProof.Rows L2
/-! s[::-1] -/
theorem sliceRev (x : Str) (u : Tok) : Txt.sliceBy x none none (-1, u) = S (cs x).reverse := by
  apply cs_inj
  rw [cs_S]
  show (Txt.sliceBy x none none (-1, u)).cps.toList = _
  rw [step_rev_list]
  apply List.ext_getElem
  · simp [cs, Str.length]
  · intro i h1 h2
    have hi : i < x.length := by simpa using h1
    have hx : (cs x).length = x.length := cs_len x
    simp only [List.getElem_map, List.getElem_range, List.getElem_reverse]
    have this : x.length - 1 - i < x.cps.size := by
      show x.length - 1 - i < x.length
      omega
    have e2 : (cs x)[(cs x).length - 1 - i]'(by omega) = (cs x)[x.length - 1 - i]'(by rw [hx]; exact this) := by
      congr 1
    rw [e2]
    simp [Array.getD, this, cs]
def tRevS (te : TE) : TE := fun σ H Q => te σ H fun x H1 => ∃ z, x = .str z ∧ z.length ≤ sizeLine ∧ Q (.str (S (cs z).reverse)) H1
theorem pe_revS {X : Cx} {e : Expr} {te : TE} {k : Nat} {p1 p2 p3 pos : Pos} (he : PE X e te) : PE X (.Subscript e (.Slice none none (some (.UnaryOp .USub (.Constant (.int 1) k p1) p2)) p3) pos) (tRevS te) := by
  refine ⟨fun pins s σ H Q I h => ?_⟩
  refine Subscript_ (thn (he.run pins s σ H _ I h) fun v s1 ⟨x, H1, I1, r1, q1⟩ => ?_)
  obtain ⟨z, ex, hz, q⟩ := q1
  subst ex
  obtain ⟨t, rfl⟩ := r1
  have hst : PO X (some (.UnaryOp .USub (.Constant (.int 1) k p1) p2)) (tPart (tUn (rU fun i => .int (-i)) (tC (.int 1)))) := po_some (pe_un un_neg pe_int)
  refine wpAny_Slice (thn (po_none.run pins s1 σ H1 (fun o H2 => o = none ∧ H2 = H1) I1 ⟨rfl, rfl⟩) fun vl s2 ⟨l, H2, I2, pl, el, e2⟩ => ?_)
  subst el e2
  refine thn (po_none.run pins s2 σ H2 (fun o H3 => o = none ∧ H3 = H2) I2 ⟨rfl, rfl⟩) fun vu s3 ⟨u, H3, I3, pu, eu, e3⟩ => ?_
  subst eu e3
  refine thn (hst.run pins s3 σ H3 (fun o H4 => o = some (-1) ∧ H4 = H3) I3 ⟨1, rfl, -1, rfl, rfl, rfl⟩) fun vs s4 ⟨o, H4, I4, ps, eo, e4⟩ => ?_
  subst eo e4
  have I5 : Inv X pins σ H4 { s4 with heap := s4.heap.push { cls := .type "slice", data := .fields #[vl, vu, vs] } } := I4.kept (t' := s4.toks) fun b ob q => Heap.get?_push_of_some _ q
  cases pl
  cases pu
  cases ps with
  | int _ tk =>
  show wpAny (model X.prog X.w) X.A (subscriptTail e (.Slice none none (some (.UnaryOp .USub (.Constant (.int 1) k p1) p2)) p3) (.str z t) (.ref s4.heap.objs.size)) (EP X pins σ Q) X.xe { s4 with heap := s4.heap.push { cls := .type "slice", data := .fields #[.none, .none, .int (-1) tk] } }
  refine tail_any (ops := [.ref s4.heap.objs.size, .str z t]) (typeIs_str _ _ _) F.slot_str_getitem.lookup ?_ (by with_unfolding_all rfl)
  refine wpAny_getItem_str_slice (l := none) (u := none) (st := some (-1, tk)) ⟨_, Heap.get?_push_size _ rfl, rfl, rfl⟩ rfl ?_
  rw [← sliceRev z tk] at q
  have hl := Txt.sliceBy_le z none none (-1, tk) (show (-1 : Int) ≠ 0 by decide)
  unfold Txt.sliceBy at q hl
  show Made.post (if ((((some ((-1 : Int), tk)).map (·.1)).getD 1 == 1 && (slicePicked z none none (some (-1, tk))).length == z.length) = true) then Made.val (.str z t) else Made.str ⟨((slicePicked z none none (some (-1, tk))).filterMap (z.cps[·]?)).toArray⟩) (EP X pins σ Q) _
  by_cases c : ((((some ((-1 : Int), tk)).map (·.1)).getD 1 == 1 && (slicePicked z none none (some (-1, tk))).length == z.length) = true)
  · rw [if_pos c] at q ⊢
    exact ⟨.str z, H4, I5, ⟨t, rfl⟩, q⟩
  · rw [if_neg c] at q hl ⊢
    exact ⟨Nat.le_trans hl hz, .str _, H4, I5.tok _, ⟨_, rfl⟩, q⟩
end Kb

namespace Kb
open PySem PySem.Spec PyProof.Rows L2
/-! enumerate(text, start=1) -/
def ItT (z : Str) : It :=
  ⟨fun i _ => i < z.cps.size,
   fun i H v H' => ∃ (T : Addr) (c : Nat), v = .ref T ∧ H T = none ∧ H' = upd H T (.tup [.int (1 + (i : Int)), .str ⟨#[c]⟩]) ∧ z.cps[i]? = some c,
   fun i _ => i = z.cps.size⟩
def iEnumT (te : TE) : TI := fun σ H R => te σ H fun v H1 => ∃ z, v = .str z ∧ R (ItT z) H1
theorem turn_enumT {P : Program} {w : World} {K : PySem.W.Frag} {elts : List Expr} {kk : Nat} {tpos : Pos} (z : Str) (t : Tok) (e it : Addr) (hei : e ≠ it) :
    Turn P w K (.Tuple elts kk tpos) (ItT z) [e, it] e (fun i h => (∃ old, IsEnum h e it (1 + (i : Int)) old) ∧ h.IsStrIter it (strIterType z) z t i) := by
  have G : ∀ A : Around, A.handled = none → _ := fun A hh => GoesN.enumFrom (prog := P) (w := w) (A := A) (elts := elts) (x1 := kk) (pos := tpos) 1 (Draws.text (prog := P) (w := w) (A := A.in1) hh it z t) e hei (by simpa using hei) (by simp)
  refine ⟨by simp, fun i h st b hb => ?_, fun i h h' st k => ?_, ?_, ?_, ?_⟩
  · obtain ⟨⟨old, he⟩, ⟨o, ho, hc, hd⟩⟩ := st
    rcases (show b = e ∨ b = it by simpa using hb) with rfl | rfl
    · exact ⟨_, he, fun v q => nomatch q⟩
    · exact ⟨o, ho, fun v q => by rw [hd] at q; cases q⟩
  · obtain ⟨⟨old, he⟩, hi⟩ := st
    obtain ⟨o, ho, r⟩ := hi
    exact ⟨⟨old, k e (by simp) _ he⟩, o, k it (by simp) o ho, r⟩
  · intro X hP hw hK hc i pins s σ H E I hf st hg
    subst hP hw hK
    have fin := (G X.A (I.ok.hd hc)).goes i s (fun v s2 => ∃ x H', Inv X pins σ H' s2 ∧ RelV x v ∧ (ItT z).yld i H x H' ∧ ((∃ old, IsEnum s2.heap e it (1 + ((i + 1 : Nat) : Int)) old) ∧ s2.heap.IsStrIter it (strIterType z) z t (i + 1)) ∧ ∀ b ∈ [e, it], H' b = none) E hg st ?_
    · exact wpAny_mono fin (fun r s1 hr => hr) fun _ _ x => x
    · rintro v h' tk ⟨T, t1, x, rfl, hT, ⟨c, u, hcs, rfl⟩, hTup⟩ st' hk _
      have hn : H T = none := I.hok.fresh hT
      have new : ObjOk X.prog X.w (upd H T (.tup [.int (1 + (i : Int)), .str ⟨#[c]⟩])) h' T (.tup [.int (1 + (i : Int)), .str ⟨#[c]⟩]) :=
        ⟨(by decide : 2 ≤ sizeLine), [.int (1 + (i : Int)) t1, .str ⟨#[c]⟩ u], .cons ⟨_, rfl⟩ (.cons ⟨_, rfl⟩ .nil), hTup⟩
      refine ⟨.ref T, _, I.turnedNew (t' := tk) (ch := [e, it]) hk hf hT new, rfl, ⟨T, c, rfl, hn, rfl, hcs⟩, st', fun b hb => ?_⟩
      have hbT : b ≠ T := fun q => by
        obtain ⟨⟨old, he⟩, ⟨o, ho, _⟩⟩ := st
        have lt : b < s.heap.objs.size := by
          rcases (show b = e ∨ b = it by simpa using hb) with rfl | rfl
          · exact Heap.lt_size he
          · exact Heap.lt_size ho
        rw [q] at lt
        exact absurd (Nat.lt_of_lt_of_le lt hT) (Nat.lt_irrefl _)
      rw [upd_ne hbT]
      exact (hf b hb).1
  · intro X hP hw hK hc i pins s σ H E I hf st hg
    subst hP hw hK
    have hg : i = z.cps.size := hg
    subst hg
    refine (G X.A (I.ok.hd hc)).stops s (fun s1 => Inv X pins σ H s1) E st fun h' tk hk _ => ?_
    exact I.step (g' := s.gens) (d' := s.drawn) (ch := [e, it]) (fun b hb => ⟨(hf b hb).2.2.2.1, (hf b hb).2.1, (hf b hb).2.2.2.2.1, (hf b hb).2.2.2.2.2⟩) (fun b o _ _ hc e _ => hk b o hc e) (fun b o _ _ hc e _ => ⟨o.slots, hk b o hc e⟩)
      (fun b o _ _ n => n) (fun b o hc e => ⟨o, hk b o hc e⟩) (fun _ _ e => e) (fun _ _ _ e => e) (fun b ps e => ⟨#[], by rw [e]; simp⟩) (fun m hm => by
        obtain ⟨o, es, ep, ho, r⟩ := hm
        exact ⟨o, es, ep, hk _ o (fun q => (hf _ q).2.1 rfl) ho, r⟩)
      (fun b u eb => (I.hok b u eb).stay (fun c v hc q => hk c v (fun q2 => by
        have n := (hf c q2).1
        rcases hc with hc | hc
        · rw [hc, eb] at n
          cases n
        · rw [hc] at n
          cases n) q) (fun _ q => q) fun _ _ q => q) I.bare
  · intro A i s Q E st h
    obtain ⟨⟨old, he⟩, _⟩ := st
    exact wpAny_pyIter_enum he h
def iEnumTS (te ts : TE) : TI := fun σ H R => te σ H fun v H1 => ∃ z, v = .str z ∧ ts σ H1 fun u H2 => u = .int 1 ∧ R (ItT z) H2
theorem pi_enumTS {X : Cx} {e es : Expr} {te ts : TE} {p pos tpos kp : Pos} {elts : List Expr} {kk : Nat} (hg : Gl X "enumerate") (hm : X.mg "enumerate" = none) (he : PE X e te) (hes : PE X es ts) (hs : starEach [e] X.env = [(false, eval e X.env)] := by rfl) :
    PI X (.Tuple elts kk tpos) (.Call (.Name "enumerate" p) [e] [⟨some (Str.ofString "start"), es, kp⟩] pos) (iEnumTS te ts) := by
  refine ⟨fun pins s σ H R I h => ?_⟩
  refine wpAny_Call_Name_kw (ld_blt I hg hm boot_enumerate ?_ (by decide) (by decide))
  refine PySem.W.callWith_of (P := fun _ => True) (by rw [hs]; rfl) (fun h _ => ⟨.machine, .inr (.inl rfl), fun A Q E s k q => wpAny_pure q⟩) ?_
  rw [hs]
  refine PyProof.Rows.evalArgs_kwB rfl ?_
  refine Calls.spliced_cons (thn (he.run pins s σ H _ I h) fun u s1 ⟨v, H1, I1, r1, z, ev, q⟩ => Calls.spliced_nil ?_)
  subst ev
  obtain ⟨t, rfl⟩ := r1
  refine PyProof.Rows.kws_cons (thn (hes.run pins s1 σ H1 _ I1 q) fun u2 s2 ⟨v2, H2, I2, r2, e2, q2⟩ => ?_)
  subst e2
  obtain ⟨t2, rfl⟩ := r2
  refine PyProof.Rows.kws_nil ⟨trivial, ?_⟩
  refine enum_begins_start (begins_text z t) trivial (by decide) (by decide) fun h' he' ho hsz hk => ?_
  have I3 : Inv X pins σ H2 { s2 with heap := h' } := I2.kept (t' := s2.toks) hk
  refine wpAny_pyIter_enum he' ?_
  refine ⟨_, _, _, _, H2, rfl, I3, turn_enumT z t _ s2.heap.objs.size (Nat.succ_ne_self _), ⟨⟨.none, he'⟩, _, ho, rfl, rfl⟩, fun b hb => ?_, q2⟩
  have hle : s2.heap.objs.size ≤ b := by
    rcases (show b = s2.heap.objs.size + 1 ∨ b = s2.heap.objs.size by simpa using hb) with rfl | rfl
    · exact Nat.le_succ _
    · exact Nat.le_refl _
  exact I2.fpOk hle (I2.hok.fresh hle)
theorem walk_enumT {z : Str} : Walk (ItT z) z.cps.size (fun _ => True) (fun i H v H' => ∃ (T : Addr) (c : Nat), v = .ref T ∧ H T = none ∧ H' = upd H T (.tup [.int (1 + (i : Int)), .str ⟨#[c]⟩]) ∧ z.cps[i]? = some c) :=
  ⟨fun _ _ hi _ => hi, fun _ _ => rfl, fun _ _ _ _ _ _ y => y⟩
end Kb

namespace Kb
open PySem PySem.Spec PyProof.Rows L2
abbrev sP_is_text : Stmt := topS 8
abbrev NP_is_text : List Str := ["thing"]
theorem scP_is_text : FnScope ["thing"] ["thing"] (defScope sP_is_text) := ⟨rfl, rfl, rfl, by decide +kernel, rfl, by decide +kernel, by decide +kernel⟩
abbrev sP_number_of : Stmt := topS 23
abbrev NP_number_of : List Str := ["sign"]
theorem scP_number_of : FnScope ["sign"] ["sign"] (defScope sP_number_of) := ⟨rfl, rfl, rfl, by decide +kernel, rfl, by decide +kernel, by decide +kernel⟩
abbrev sP_check : Stmt := topS 21
abbrev NP_check : List Str := ["text"]
abbrev sP_check_behind : Stmt := topS 22
theorem scP_check_behind : FnScope ["total", "many", "text", "place", "sign"] ["total", "many", "text"] (defScope sP_check_behind) := ⟨rfl, rfl, rfl, by decide +kernel, rfl, by decide +kernel, by decide +kernel⟩
theorem scP_check : FnScope ["text"] ["text"] (defScope sP_check) := ⟨rfl, rfl, rfl, by decide +kernel, rfl, by decide +kernel, by decide +kernel⟩
abbrev sP_sealed : Stmt := topS 24
abbrev NP_sealed : List Str := ["thing", "text"]
theorem scP_sealed : FnScope ["thing", "text"] ["thing"] (defScope sP_sealed) := ⟨rfl, rfl, rfl, by decide +kernel, rfl, by decide +kernel, by decide +kernel⟩
abbrev scheck : Stmt := topS 33
abbrev Ncheck : List Str := ["_law_text", "_law_found", "_law_at", "_law_number"]
theorem sccheck : FnScope ["_law_text", "_law_found", "_law_at", "_law_number"] ["_law_text"] (defScope scheck) := ⟨rfl, rfl, rfl, by decide +kernel, rfl, by decide +kernel, by decide +kernel⟩
abbrev ssealed : Stmt := topS 34
abbrev Nsealed : List Str := ["_law_thing_here", "_law_text"]
theorem scsealed : FnScope ["_law_thing_here", "_law_text"] ["_law_thing_here"] (defScope ssealed) := ⟨rfl, rfl, rfl, by decide +kernel, rfl, by decide +kernel, by decide +kernel⟩
/-! the check, as mathematics -/
def num (c : Nat) : Int := if c = 10 then 0 else (c : Int) - 31
def sm : Nat → List Nat → Int
  | _, [] => 0
  | p, c :: r => (p : Int) * num c + sm (p + 1) r
def ck (l : List Nat) : Int := sm 1 l % 99991
def textC (c : Nat) : Bool := c == 10 || plainC c
theorem sm_cons (p c : Nat) (r : List Nat) : sm p (c :: r) = (p : Int) * num c + sm (p + 1) r := rfl
theorem sm_app : ∀ (p : Nat) (a b : List Nat), sm p (a ++ b) = sm p a + sm (p + a.length) b
  | p, [], b => by simp [sm]
  | p, c :: r, b => by
    rw [List.cons_append, sm_cons, sm_cons, sm_app (p + 1) r b, List.length_cons]
    rw [show p + 1 + r.length = p + (r.length + 1) by omega]
    omega
theorem sm_take {l : List Nat} {i c : Nat} (h : l[i]? = some c) : sm 1 (l.take (i + 1)) = sm 1 (l.take i) + (((i : Int) + 1) * num c) := by
  have hi : i < l.length := (List.getElem?_eq_some_iff.mp h).1
  rw [List.take_add_one, h, sm_app]
  show _ + sm (1 + (l.take i).length) [c] = _
  rw [sm_cons, List.length_take, Nat.min_eq_left (by omega)]
  simp only [sm]
  rw [show ((1 + i : Nat) : Int) = (i : Int) + 1 by omega]
  omega
theorem num_lo {c : Nat} (h : textC c = true) : 0 ≤ num c := by
  unfold textC plainC at h
  unfold num
  simp at h
  split <;> omega
theorem num_hi {c : Nat} (h : textC c = true) : num c ≤ 95 := by
  unfold textC plainC at h
  unfold num
  simp at h
  split <;> omega
theorem ck_lo (l : List Nat) : 0 ≤ ck l := Int.emod_nonneg _ (by decide)
theorem ck_hi (l : List Nat) : ck l < 99991 := Int.emod_lt_of_pos _ (by decide)
theorem ck_bits (l : List Nat) : (ck l).natAbs.log2 < 1920 := by
  have h1 := ck_lo l
  have h2 := ck_hi l
  exact int_bits (by omega)
/-- 'nl' left out: all signs plain -/
theorem repl_nl : ∀ l : List Nat, (∀ c ∈ l, textC c = true) → (PySem.StrLaws.replL [10] [] l).all plainC = true
  | [], _ => by rw [PySem.StrLaws.replL_nil]; rfl
  | c :: r, h => by
    have ih := repl_nl r fun x hx => h x (List.mem_cons_of_mem _ hx)
    have hc := h c List.mem_cons_self
    rw [repl1]
    by_cases e : c = 10
    · rw [if_pos e]
      exact ih
    · rw [if_neg e, List.all_cons, ih, Bool.and_true]
      unfold textC at hc
      rw [show (c == 10) = false from beq_eq_false_iff_ne.mpr e] at hc
      simpa using hc
theorem repl_nlS {z : Str} (h : ∀ c ∈ cs z, textC c = true) : (cs (Txt.replace z (Str.ofString "\n") (Str.ofString ""))).all plainC = true := by
  have e1 : (Str.ofString "\n").cps.toList = [10] := by decide +kernel
  have e2 : (Str.ofString "").cps.toList = [] := by decide +kernel
  show (Txt.replace z (Str.ofString "\n") (Str.ofString "")).cps.toList.all plainC = true
  rw [PySem.StrLaws.replace_list (by decide +kernel), e1, e2]
  exact repl_nl _ h
/-! rules of my own -/
section
variable {X : Cx} {a b e f : Expr} {ta tb te : TE} {rest : List Expr} {pos : Pos}
theorem pet_one {op : BoolOp} (hb : PET X b tb) : PET X (.BoolOp op [b] pos) tb := fun pins s σ H Q h0 I h => BoolOp_one (hb pins s σ H Q h0 I h)
/-- the left value is known, the right side needs a token -/
theorem pet_both (ha : PE X a ta) (hb : PET X (.BoolOp .And (b :: rest) pos) tb) : PET X (.BoolOp .And (a :: b :: rest) pos) (tAndV ta tb) := by
  intro pins s σ H Q h0 I h
  refine BoolOp_and (wpAny_mono (PySem.wpAny_toks (ha.run pins s σ H _ I h)) (fun u s1 got => ?_) fun _ _ far => far.2)
  obtain ⟨more, x, H1, I1, rx, c, ex, q⟩ := got
  subst ex
  cases rx
  refine wpAny_truthy_bool ?_
  have h1 : 1 ≤ s1.toks := Nat.le_trans h0 more
  cases c with
  | false => exact ⟨V.bl false, H1, I1, rfl, q⟩
  | true => exact hb pins s1 σ H1 Q h1 I1 q
variable {CX : CXT} {k : Nat} {g : Addr} {fd : FuncData} {ps : List Str} {sp : Sp} {E : XK} {x : Str} {p : Pos} {t : TA}
/-- a call whose argument needs a token -/
theorem pet_fn (F : FnOk X.prog X.w X.K X.mg X.base CX k g fd ps sp) (room : Room k X.A) (gl : Gl X x) (at_ : X.mg x = some (.ref g)) (kept : PySem.W.keepIn X.K (.ref g) = true) (binds : Binds X.K fd ps []) (passes : Passes CX X E)
    (args : PAT X (e :: []) t) (nodebug : (x == ("__debug__" : Str)) = false := by decide) (one : starEach (e :: []) X.env = (false, eval e X.env) :: starEach [] X.env := by rfl) (plain : (backTo pos (starEach [] X.env)).any (·.1) = false := by rfl) :
    PET X (.Call (.Name x p) (e :: []) [] pos) (tCall sp [] E t) := by
  intro pins s σ H Q h0 I h
  refine wpAny_Call_Name_kw (ld_glob I gl at_ ?_ nodebug)
  refine PySem.W.callWith_K (h₀ := X.base) I.ok.mod.kin kept (thn (args pos pins s σ H _ h0 I h) fun us s1 got => ?_) one plain
  obtain ⟨vs, H1, I1, rv, q⟩ := got
  exact ⟨I1.kIn, run_fn F room binds .nil passes I1 rv q⟩
/-- C(), C an own class of errors without own __init__ -/
theorem pmk_bare {C : Addr} {bmB : List Value} {B newId initId : String} (F : ExcBaseFacts B newId initId bmB) (isExc : PySem.W.excIn X.K C bmB newId = true) (at_ : X.mg x = some (.ref C)) (kept : PySem.W.keepIn X.K (.ref C) = true) (may : Raises X (.ref C)) (gl : Gl X x)
    (nodebug : (x == ("__debug__" : Str)) = false := by decide) : PMk X (.Call (.Name x p) [] [] pos) (fun _ H Q => Q (.ref C) none H) := by
  intro pins s σ H Q I h
  refine wpAny_Call_Name_kw (ld_glob I gl at_ ?_ nodebug)
  refine PySem.W.callWith_K0 I.kIn kept ?_
  obtain ⟨_, _, _, _, _, _, _, _, _, _, _, _, _, _, _, _, _, isC, names, noInit, tail⟩ := exc_obj I.kIn isExc
  exact wpAny_call_exc_subT F tail isC names noInit (fun h' e' made => mk_of I made may h (I.hok.gone made.new)) (Nat.zero_le _)
end
/-- a def whose body needs a token -/
theorem fun_okT {P : Program} {w : World} {K : PySem.W.Frag} {mg : Str → Option Value} {base : Heap} {nm : Str} {st : Stmt} {ps N : List Str} {k : Nat} {sp : Sp} {g : Addr} {fd : FuncData} (d : Fun K nm nm st g fd) (S : FnScope N ps (defScope st)) (nocell : ∀ y ∈ (defScope st).names, y.2 ≠ .cell) (some1 : 1 ≤ ps.length) (len : ∀ vs H Q E, sp vs H Q E → vs.length = ps.length)
    (body : ∀ (cdv : Value) (A : Around) (outer : List Env) (s : Shared) (H : Hp) (vs : List V) (Q : VK) (E : XK), Room k (A.deeper (envOfC nm (defScope st) s.heap.objs.size g cdv)) → sp vs H Q E →
      ∃ t, PSsT (cxOf CX0 P w K mg base N nm (defScope st) g cdv A outer s H E) (defBody st) t ∧ t { nx := fun _ H' => Q .non H', rt := Q } (start N vs) H) : FnOk P w K mg base CX0 (k + 1) g fd ps sp := by
  obtain ⟨oc, od, kV, doc, pm, an, cdv, ct, osl, rfl, lk, code⟩ := d.ex
  exact fn_ofT lk code S nocell some1 len fun A outer s H vs Q E hr hsp => body cdv A outer s H vs Q E hr hsp
section
variable {P : Program} {w : World} {K : PySem.W.Frag} {mg : Str → Option Value} {base : Heap}
abbrev DnIsText (K : PySem.W.Frag) (mg : Str → Option Value) := Dn K mg "is_text" sP_is_text ["thing"]
abbrev DnNumberOf (K : PySem.W.Frag) (mg : Str → Option Value) := Dn K mg "_number_of" sP_number_of ["sign"]
abbrev DnCheckB (K : PySem.W.Frag) (mg : Str → Option Value) := Dn K mg "check_behind" sP_check_behind ["total", "many", "text"]
structure DnCheckP (K : PySem.W.Frag) (mg : Str → Option Value) extends Dn K mg "check" sP_check ["text"] where
  cb : DnCheckB K mg
abbrev DnSealedP (K : PySem.W.Frag) (mg : Str → Option Value) := Dn K mg "sealed" sP_sealed ["thing"]
abbrev DnCheckL (K : PySem.W.Frag) (mg : Str → Option Value) := Dn K mg "_law_check" scheck ["_law_text"]
abbrev DnSealedL (K : PySem.W.Frag) (mg : Str → Option Value) := Dn K mg "_law_sealed" ssealed ["_law_thing_here"]
/-! is_text -/
def spIsText (K : PySem.W.Frag) : Sp := fun vs H Q _ => ∃ (v : V), vs = [v] ∧ ((∃ z : Str, v = .str z ∧ (cs z).length ≤ 100000 ∧ (∀ c ∈ cs z, textC c = true) ∧ ∀ H', Same H H' → Q (.bl true) H') ∨ (∃ t, TyX K H v (.type t) ∧ kitB t "str" = some false ∧ Q (.bl false) H))
theorem ok_is_text (T : Blt mg) (dP_is_plain : DnIsPlain K mg) (d : DnIsText K mg) : FnOk P w K mg base CX0 2 d.f d.fd ["thing"] (spIsText K) := by
  have GP_is_plain : FnOk P w K mg base CX0 1 dP_is_plain.f dP_is_plain.fd ["thing"] (spIsPlain K) := ok_is_plain T dP_is_plain
  refine fun_okT d.F scP_is_text (by decide +kernel) (by decide) (fun vs H Q E h => ?_) (fun cdv A outer s H vs Q E hr h => ?_)
  · obtain ⟨v, rfl, _⟩ := h
    rfl
  · obtain ⟨v, rfl, h⟩ := h
    refine ⟨_, (CwR.psst_one (CwR.pst_ret (pet_both (pe_callB call_isi (by rfl) T.n_isinstance (by decide +kernel) (pa_cons (pv 0) (pa_cons (pe_bltn (v := .ty "str") (by rfl) T.n_str (by decide +kernel) rfl) pa_nil))) (pet_one (pet_fn GP_is_plain (hr.mono (by omega)) (by rfl) dP_is_plain.g dP_is_plain.F.kp dP_is_plain.b pass0 (pat_cons (CwR.pet_replC (pv 0)) pat_nil)))))), ?_⟩
    rcases h with ⟨z, rfl, hz, hc, q⟩ | ⟨t, ty, k, q⟩
    · have hlz := cs_len z
      refine ⟨.str z, rfl, .str z, _, _, _, true, rfl, .ty "str", .base (.str z), kit_ty (by decide +kernel), true, rfl, iteT ?_⟩
      refine ⟨.str z, rfl, z, rfl, ?_, .str _, rfl, .inl ⟨_, rfl, ?_, fun H' s' => ?_⟩⟩
      · rw [show (Str.ofString "").length = 0 by decide +kernel]
        omega
      · have := TK.replace_len z (Str.ofString "\n") (Str.ofString "")
        rw [show (Str.ofString "").length = 0 by decide +kernel] at this
        omega
      · rw [repl_nlS hc]
        exact q H' s'
    · exact ⟨v, rfl, v, _, _, _, false, rfl, .ty "str", ty, kit_ty k, false, rfl, iteF q⟩
/-! _number_of -/
def spNumberOf : Sp := fun vs H Q _ => ∃ (c : Nat), vs = [.str ⟨#[c]⟩] ∧ Q (.int (num c)) H
theorem q10 : Str.ofString "\n" = S [10] := by decide +kernel
theorem ok_number_of (T : Blt mg) (d : DnNumberOf K mg) : FnOk P w K mg base CX0 1 d.f d.fd ["sign"] spNumberOf := by
  refine d.F.ok scP_number_of (fun vs H Q E h => ?_) (fun cdv A outer s H vs Q E hr h => ?_)
  · obtain ⟨c, rfl, _⟩ := h
    rfl
  · obtain ⟨c, rfl, q⟩ := h
    refine ⟨_, (pss_one (ps_ret (pe_ifExp (pt_cmpR op_eq (pv 0) pe_str (nomark _)) pe_int (pe_op op_sub (pe_callB call_ord (by rfl) T.n_ord (by decide +kernel) (pa_cons (pv 0) pa_nil)) pe_int)))), ?_⟩
    refine ⟨.str ⟨#[c]⟩, rfl, rfl, _, rfl, ite2 (fun e => ?_) (fun e => ?_)⟩
    · have e2 := sg_t q10 e
      rw [num, if_pos e2] at q
      exact q
    · have e2 := sg_f q10 e
      refine ⟨.str ⟨#[c]⟩, rfl, ⟨#[c]⟩, rfl, rfl, _, _, rfl, rfl, ?_⟩
      rw [num, if_neg e2] at q
      exact q
/-! check -/
structure TxNo (K : PySem.W.Frag) (mg : Str → Option Value) where
  C : Addr
  gC : mg "NoText" = some (.ref C)
  exc : PySem.W.excIn K C [.type "ValueError", .type "Exception", .type "BaseException", .type "object"] "ValueError.__new__" = true
  kp : PySem.W.keepIn K (.ref C) = true
  sub : PySem.W.subIn K (.ref C) (.type "BaseException") = some true
  ty : PySem.W.typeIn K (.ref C) = some (.type "type")
  te : PySem.W.exmOne K (.ref C) (.ref C) = some true
def spCheckP (K : PySem.W.Frag) (C : Addr) : Sp := fun vs H Q E => ∃ (v : V), vs = [v] ∧ ((∃ z : Str, v = .str z ∧ (cs z).length ≤ 100000 ∧ (∀ c ∈ cs z, textC c = true) ∧ ∀ H', Same H H' → Q (.int (ck (cs z))) H') ∨ (∃ t, TyX K H v (.type t) ∧ kitB t "str" = some false ∧ E (.ref C) none H))
def spCheckB : Sp := fun vs H Q _ => ∃ z : Str, vs = [.int 0, .int 0, .str z] ∧ (cs z).length ≤ 100000 ∧ ∀ H', Same H H' → Q (.int (ck (cs z))) H'
theorem ok_checkB (T : Blt mg) (cC : Cst mg "CHECKS" (.int 99991)) (dP_number_of : DnNumberOf K mg) (d : DnCheckB K mg) : FnOk P w K mg base CX0 2 d.f d.fd ["total", "many", "text"] spCheckB := by
  have GP_number_of : FnOk P w K mg base CX0 1 dP_number_of.f dP_number_of.fd ["sign"] spNumberOf := ok_number_of T dP_number_of
  obtain ⟨uC, gCHECKS, rCHECKS⟩ := cC
  refine d.F.ok scP_check_behind (fun vs H Q E h => ?_) (fun cdv A outer s H vs Q E hr h => ?_)
  · obtain ⟨z, rfl, _⟩ := h
    rfl
  · obtain ⟨z, rfl, hz, q⟩ := h
    refine ⟨_, (pss_cons (ps_for PassesOwn.never rfl (pi_enumTS (by rfl) T.n_enumerate (pv 2) (pe_op op_add (pv 1) pe_int)) (pg_tup (by rfl) (pgs_cons (pg_name (i := 3) scP_check_behind.nd rfl (Or.inl rfl)) (pgs_cons (pg_name (i := 4) scP_check_behind.nd rfl (Or.inl rfl)) pgs_nil)))
      (pss_one (ps_aug (i := 0) scP_check_behind.nd rfl (Or.inl rfl) (pe_op op_mul (pv 3) (pe_call GP_number_of (hr.mono (by omega)) (by rfl) dP_number_of.g dP_number_of.F.kp dP_number_of.b .nil pass0 (pa_cons (pv 4) pa_nil))) ip_add)))
    (pss_one (ps_ret (pe_op op_modB (pv 0) (pe_glob rfl gCHECKS rCHECKS))))), ?_⟩
    refine ⟨.str z, rfl, z, rfl, .int 0, rfl, _, _, rfl, rfl, rfl, for_it walk_enumT (fun i σ H' => ∃ y3 y4 : Option V, σ = [some (.int (sm 1 ((cs z).take i))), some (.int 0), some (.str z), y3, y4] ∧ Same H H') ⟨none, none, rfl, Same.refl H⟩ (fun _ _ _ _ _ => trivial) ?_ ?_⟩
    · rintro i x σ H2 H3 hi ⟨y2, y3, rfl, s2⟩ ⟨t, c, rfl, nt, rfl, hcz⟩
      have hc2 : (cs z)[i]? = some c := by
        rw [← hcz]
        simp [cs]
      refine ⟨t, _, rfl, .inl (.inl upd_same), rfl, .int (1 + (i : Int)), _, rfl, .str ⟨#[c]⟩, _, rfl, rfl, ?_⟩
      have hi2 : i < (cs z).length := hi
      refine ⟨_, rfl, .int (1 + (i : Int)), rfl, .str ⟨#[c]⟩, rfl, c, rfl, _, _, rfl, rfl, cmulL (by omega) (by omega), _, _, rfl, rfl, some (.int (1 + (i : Int))), some (.str ⟨#[c]⟩), ?_, s2.trans (same_upd nt)⟩
      rw [sm_take hc2, show (1 + (i : Int)) = (i : Int) + 1 by omega]
      rfl
    · rintro σ H2 ⟨y2, y3, rfl, s2⟩
      refine ⟨_, rfl, _, _, rfl, rfl, by decide, fun m m0 m1 em => ?_⟩
      rw [em, List.take_of_length_le (by rw [cs_len]; exact Nat.le_refl _)]
      exact q H2 s2
theorem ok_checkP (T : Blt mg) (N : TxNo K mg) (cC : Cst mg "CHECKS" (.int 99991)) (dP_is_plain : DnIsPlain K mg) (dP_is_text : DnIsText K mg) (dP_number_of : DnNumberOf K mg) (d : DnCheckP K mg) : FnOk P w K mg base (L2.CX P w) 3 d.f d.fd ["text"] (spCheckP K N.C) := by
  have GP_is_text : FnOk P w K mg base CX0 2 dP_is_text.f dP_is_text.fd ["thing"] (spIsText K) := ok_is_text T dP_is_plain dP_is_text
  have GP_check_behind : FnOk P w K mg base CX0 2 d.cb.f d.cb.fd ["total", "many", "text"] spCheckB := ok_checkB T cC dP_number_of d.cb
  refine d.F.okX scP_check (fun vs H Q E h => ?_) (fun cdv A outer s H vs Q E hr h => ?_)
  · obtain ⟨v, rfl, _⟩ := h
    rfl
  · obtain ⟨v, rfl, h⟩ := h
    refine ⟨_, (pss_cons (ps_if (pt_not (pt_val (pe_call GP_is_text (hr.mono (by omega)) (by rfl) dP_is_text.g dP_is_text.F.kp dP_is_text.b .nil pass0 (pa_cons (pv 0) pa_nil))))
      (pss_one (ps_raise rfl (takes_of rfl rfl rfl rfl) (pmk_bare PySem.F.excBase_ValueError N.exc N.gC N.kp (raises_own N.sub N.ty) rfl)))
      pss_nil)
    (pss_one (ps_ret (pe_call GP_check_behind (hr.mono (by omega)) (by rfl) d.cb.g d.cb.F.kp d.cb.b .nil pass0 (pa_cons pe_int (pa_cons pe_int (pa_cons (pv 0) pa_nil))))))), ?_⟩
    rcases h with ⟨z, rfl, hz, hc, q⟩ | ⟨t, ty, k, qe⟩
    · refine ⟨.str z, rfl, .str z, rfl, .inl ⟨z, rfl, hz, hc, fun H1 s1 => ⟨true, rfl, iteF ?_⟩⟩⟩
      exact ⟨.str z, rfl, z, rfl, hz, fun H2 s2 => q H2 (s1.trans s2)⟩
    · exact ⟨v, rfl, v, rfl, .inr ⟨t, ty, k, false, rfl, iteT qe⟩⟩
end
end Kb

namespace Kb
open PySem PySem.Spec PyProof.Rows L2
open PySem.NumText (digitsVal AllDigits)
/-! the texts of numbers -/
theorem dg_nat (n : Nat) : dg (n : Int) = (Nat.toDigits 10 n).map Char.toNat := PySem.W.KIN.signs_num n
theorem dg_neg (n : Nat) (h : 0 < n) : dg (-(n : Int)) = 45 :: (Nat.toDigits 10 n).map Char.toNat := by
  have e : toString (-(n : Int)) = "-" ++ toString (n : Int) := by
    cases n with
    | zero => omega
    | succ m => rfl
  unfold dg
  rw [e]
  show (Str.ofString ("-" ++ toString (n : Int))).cps.toList = _
  rw [PyProof.Rows.signs_ofString, String.toList_append, List.map_append, ← PyProof.Rows.signs_ofString (toString (n : Int)), PySem.W.KIN.signs_num]
  rfl
theorem dg_dig {i : Int} (h : 0 ≤ i) : ∀ c ∈ dg i, isDig c = true := by
  obtain ⟨n, rfl⟩ := Int.eq_ofNat_of_zero_le h
  rw [dg_nat]
  intro c hc
  obtain ⟨x, hx, rfl⟩ := List.mem_map.mp hc
  have hd := Nat.isDigit_of_mem_toDigits (by decide) (by decide) hx
  simp only [Char.isDigit, Bool.and_eq_true, decide_eq_true_eq] at hd
  rw [isDig_iff]
  obtain ⟨h1, h2⟩ := hd
  have e1 : (48 : UInt32).toNat ≤ x.val.toNat := UInt32.le_iff_toNat_le.mp h1
  have e2 : x.val.toNat ≤ (57 : UInt32).toNat := UInt32.le_iff_toNat_le.mp h2
  exact ⟨e1, e2⟩
theorem dg_len {i : Int} (h : 0 ≤ i) (h1 : i < 99991) : (dg i).length ≤ 5 := by
  obtain ⟨n, rfl⟩ := Int.eq_ofNat_of_zero_le h
  rw [dg_nat, List.length_map]
  exact (Nat.length_toDigits_le_iff (by decide) (by decide)).mpr (by omega)
theorem dg_pos (i : Int) (h : 0 ≤ i) : 0 < (dg i).length := by
  obtain ⟨n, rfl⟩ := Int.eq_ofNat_of_zero_le h
  rw [dg_nat, List.length_map]
  exact Nat.length_toDigits_pos
theorem dg_inj {i j : Int} (hi : 0 ≤ i) (hj : 0 ≤ j) (h : dg i = dg j) : i = j := by
  obtain ⟨n, rfl⟩ := Int.eq_ofNat_of_zero_le hi
  obtain ⟨m, rfl⟩ := Int.eq_ofNat_of_zero_le hj
  rw [dg_nat, dg_nat] at h
  have := congrArg digitsVal h
  rw [PySem.W.KIN.val_back, PySem.W.KIN.val_back] at this
  rw [this]
theorem no35 {i : Int} (h : 0 ≤ i) : 35 ∉ dg i := fun hm => by
  have := dg_dig h 35 hm
  revert this
  decide
/-! digits written -/
theorem char_back {c : Nat} (h : 48 ≤ c ∧ c ≤ 57) : (Char.ofNat c).toNat = c := by
  obtain ⟨h1, h2⟩ := h
  have hv : c.isValidChar := .inl (by omega)
  unfold Char.ofNat
  rw [dif_pos hv]
  rfl
theorem dg_D {neg : Bool} {c : Nat} {D : List Nat} (h : AllDigits (c :: D)) (h1 : 49 ≤ c) : dg (sgn neg (digitsVal (c :: D))) = if neg then 45 :: c :: D else c :: D := by
  have e := PySem.NumText.toDigits_digitsVal D.length (c :: D) rfl h (Or.inr ⟨c, D, rfl, h1⟩)
  have e2 : ((c :: D).map Char.ofNat).map Char.toNat = c :: D := by
    rw [List.map_map]
    conv => rhs; rw [← List.map_id (c :: D)]
    exact List.map_congr_left fun x hx => char_back (h x hx)
  cases neg with
  | true =>
    show dg (-((digitsVal (c :: D) : Nat) : Int)) = 45 :: c :: D
    rw [dg_neg _ (PySem.NumText.digitsVal_pos h1), e, e2]
  | false =>
    show dg ((digitsVal (c :: D) : Nat) : Int) = c :: D
    rw [dg_nat, e, e2]
theorem val_lt : ∀ (D : List Nat) (a n : Nat), AllDigits D → a < 10 ^ n → D.foldl (fun acc c => acc * 10 + (c - 48)) a < 10 ^ (n + D.length)
  | [], a, n, _, h => h
  | c :: D, a, n, hd, h => by
    have hc := hd c List.mem_cons_self
    have ih := val_lt D (a * 10 + (c - 48)) (n + 1) (fun x hx => hd x (List.mem_cons_of_mem _ hx)) (by
      rw [Nat.pow_succ]
      omega)
    rw [List.foldl_cons, List.length_cons, show n + (D.length + 1) = n + 1 + D.length by omega]
    exact ih
theorem val_lt30 {D : List Nat} (h : AllDigits D) (hl : D.length ≤ 30) : digitsVal D < 10 ^ 30 := by
  have h1 := val_lt D 0 0 h (by decide)
  rw [Nat.zero_add] at h1
  exact Nat.lt_of_lt_of_le h1 (Nat.pow_le_pow_right (by decide) hl)
/-! the last sign # -/
theorem last35 : ∀ l : List Nat, 35 ∈ l → ∃ a b, l = a ++ 35 :: b ∧ 35 ∉ b
  | [], h => by cases h
  | c :: r, h => by
    by_cases hr : 35 ∈ r
    · obtain ⟨a, b, e, hb⟩ := last35 r hr
      exact ⟨c :: a, b, by rw [e]; rfl, hb⟩
    · have : 35 = c := by
        rcases List.mem_cons.mp h with h | h
        · exact h
        · exact absurd h hr
      exact ⟨[], r, by rw [this]; rfl, hr⟩
theorem last35_one : ∀ {a b a' b' : List Nat}, a ++ 35 :: b = a' ++ 35 :: b' → 35 ∉ b → 35 ∉ b' → a = a' ∧ b = b'
  | [], b, [], b', h, h1, h2 => ⟨rfl, (List.cons.inj h).2⟩
  | [], b, c :: a', b', h, h1, h2 => absurd (by rw [(List.cons.inj h).2]; simp) h1
  | c :: a, b, [], b', h, h1, h2 => absurd (by rw [← (List.cons.inj h).2]; simp) h2
  | c :: a, b, c' :: a', b', h, h1, h2 => by
    obtain ⟨e1, e2⟩ := List.cons.inj h
    obtain ⟨e3, e4⟩ := last35_one e2 h1 h2
    exact ⟨by rw [e1, e3], e4⟩
/-! reading goes on behind -/
def Stops (x : List Nat) : Prop := ∀ c, x.head? = some c → isDig c = false
theorem rdS_39 (t acc : List Nat) : rdS (39 :: t) acc = (some acc, t) := by
  cases t <;> rfl
theorem rdS_two (c d : Nat) (r acc : List Nat) : rdS (c :: d :: r) acc = if c = 39 then (some acc, d :: r) else if c = 126 then (if d = 39 ∨ d = 126 then rdS r (acc ++ [d]) else (none, d :: r)) else if plainC c = true then rdS (d :: r) (acc ++ [c]) else (none, c :: d :: r) := rfl
theorem rdS_ext (x : List Nat) : ∀ (l acc s r : List Nat), rdS l acc = (some s, r) → rdS (l ++ x) acc = (some s, r ++ x)
  | [], acc, s, r, h => by cases h
  | [c], acc, s, r, h => by
    by_cases e : c = 39
    · rw [e] at h ⊢
      rw [rdS_39] at h
      cases h
      exact rdS_39 x acc
    · exfalso
      simp only [rdS, if_neg e] at h
      split at h
      · cases h
      · split at h <;> cases h
  | c :: d :: t, acc, s, r, h => by
    rw [List.cons_append, List.cons_append, rdS_two]
    rw [rdS_two] at h
    by_cases e : c = 39
    · rw [if_pos e] at h ⊢
      cases h
      rfl
    · rw [if_neg e] at h ⊢
      by_cases e2 : c = 126
      · rw [if_pos e2] at h ⊢
        by_cases e3 : d = 39 ∨ d = 126
        · rw [if_pos e3] at h ⊢
          exact rdS_ext x t _ s r h
        · rw [if_neg e3] at h
          cases h
      · rw [if_neg e2] at h ⊢
        by_cases e4 : plainC c = true
        · rw [if_pos e4] at h ⊢
          exact rdS_ext x (d :: t) _ s r h
        · rw [if_neg e4] at h
          cases h
theorem takeD_ext {x : List Nat} (hx : Stops x) : ∀ (n : Nat) (l : List Nat), takeD n (l ++ x) = takeD n l
  | 0, l => by simp [takeD]
  | n + 1, [] => by
    cases x with
    | nil => rfl
    | cons c r =>
      have := hx c rfl
      show takeD (n + 1) (c :: r) = takeD (n + 1) []
      simp [takeD, this]
  | n + 1, c :: r => by
    rw [List.cons_append, takeD, takeD, takeD_ext hx n r]
theorem rdN_ext {x : List Nat} (hx : Stops x) {neg : Bool} {l r : List Nat} {n : Int} (h : rdN neg l = (some n, r)) : rdN neg (l ++ x) = (some n, r ++ x) := by
  cases l with
  | nil => cases h
  | cons d t =>
    rw [List.cons_append, rdN_cons]
    rw [rdN_cons] at h
    by_cases e : d = 48
    · rw [if_pos e] at h ⊢
      cases neg with
      | true => cases h
      | false =>
        cases h
        rfl
    · rw [if_neg e] at h ⊢
      by_cases e2 : 49 ≤ d ∧ d ≤ 57
      · rw [if_pos e2] at h ⊢
        rw [← List.cons_append, takeD_ext hx]
        have h1 := congrArg Prod.fst h
        have h2 := congrArg Prod.snd h
        have h1 : some (sgn neg (digitsVal (takeD 30 (d :: t)))) = some n := h1
        have h2 : (d :: t).drop (takeD 30 (d :: t)).length = r := h2
        rw [h1, List.drop_append_of_le_length (takeD_len 30 (d :: t)).2, h2]
      · rw [if_neg e2] at h
        cases h
theorem rdI_ext {x : List Nat} (hx : Stops x) {l r : List Nat} {n : Int} (h : rdI l = (some n, r)) : rdI (l ++ x) = (some n, r ++ x) := by
  cases l with
  | nil => cases h
  | cons c t =>
    rw [List.cons_append, rdI_cons]
    rw [rdI_cons] at h
    by_cases e : c = 45
    · rw [if_pos e] at h ⊢
      exact rdN_ext hx h
    · rw [if_neg e] at h ⊢
      exact rdN_ext hx h
theorem Rd.ext {x : List Nat} (hx : Stops x) {m : Md} {l : List Nat} {o : Option PyData} {r : List Nat} (h : Rd m l o r) : o ≠ none → Rd m (l ++ x) o (r ++ x) := by
  induction h with
  | eof k => exact fun h => absurd rfl h
  | dot k r => exact fun _ => .dot k (r ++ x)
  | str k r =>
    intro ho
    have hs := Rd.str k (r ++ x)
    cases e : rdS r [] with
    | mk a b =>
      rw [e] at ho
      cases a with
      | none => exact absurd rfl ho
      | some s =>
        rw [rdS_ext x r [] s b e] at hs
        exact hs
  | deep k r hk => exact fun h => absurd rfl h
  | tup0 k r hk => exact fun _ => .tup0 k (r ++ x) hk
  | tup k r o1 r1 hk hh h1 ih =>
    intro ho
    refine .tup k (r ++ x) o1 (r1 ++ x) hk ?_ (ih ho)
    cases r with
    | nil => exact absurd (h1.lt ho) (Nat.not_lt_zero _)
    | cons c t => exact hh
  | int k c r h1 h2 h3 =>
    intro ho
    have hs := Rd.int k c (r ++ x) h1 h2 h3
    cases e : rdI (c :: r) with
    | mk a b =>
      rw [e] at ho
      cases a with
      | none => exact absurd rfl ho
      | some s =>
        have e2 := rdI_ext hx e
        rw [List.cons_append] at e2
        rw [e2] at hs
        exact hs
  | bad k acc l r _ ih => exact fun h => absurd rfl h
  | close k acc l r d _ ih => exact fun _ => .close k acc (l ++ x) (r ++ x) d (ih (by simp))
  | next k acc l r d o1 r1 _ _ ih ih2 => exact fun ho => .next k acc (l ++ x) (r ++ x) d o1 (r1 ++ x) (ih (by simp)) (ih2 ho)
  | stop k acc l r d _ h41 h44 ih => exact fun h => absurd rfl h
/-- no text of a thing goes on ahead of a sign that is no digit -/
theorem no_more {p a b : List Nat} {c : Nat} {d d' : PyData} (h1 : Rd (.one 0) p (some d) []) (h2 : Rd (.one 0) a (some d') []) (e : p = a ++ c :: b) (hc : isDig c = false) : False := by
  have h3 := h2.ext (x := c :: b) (fun y hy => by cases hy; exact hc) (by simp)
  rw [← e] at h3
  have := (h1.det h3).2
  cases this
/-! what was read is its own text -/
theorem rdS_canon : ∀ (l acc s r : List Nat), rdS l acc = (some s, r) → ∃ s', s = acc ++ s' ∧ l = esc s' ++ 39 :: r ∧ ∀ c ∈ s', plainC c = true
  | [], acc, s, r, h => by cases h
  | [c], acc, s, r, h => by
    by_cases e : c = 39
    · rw [e, rdS_39] at h
      cases h
      exact ⟨[], by simp, by rw [e]; rfl, by simp⟩
    · exfalso
      simp only [rdS, if_neg e] at h
      split at h
      · cases h
      · split at h <;> cases h
  | c :: d :: t, acc, s, r, h => by
    rw [rdS_two] at h
    by_cases e : c = 39
    · rw [if_pos e] at h
      cases h
      exact ⟨[], by simp, by rw [e]; rfl, by simp⟩
    · rw [if_neg e] at h
      by_cases e2 : c = 126
      · rw [if_pos e2] at h
        by_cases e3 : d = 39 ∨ d = 126
        · rw [if_pos e3] at h
          obtain ⟨s', h1, h2, h3⟩ := rdS_canon t _ s r h
          refine ⟨d :: s', by rw [h1]; simp, ?_, ?_⟩
          · rw [esc_cons, if_pos e3, e2, h2]
            rfl
          · intro y hy
            rcases List.mem_cons.mp hy with hy | hy
            · rw [hy]
              rcases e3 with e3 | e3 <;> rw [e3] <;> decide
            · exact h3 y hy
        · rw [if_neg e3] at h
          cases h
      · rw [if_neg e2] at h
        by_cases e4 : plainC c = true
        · rw [if_pos e4] at h
          obtain ⟨s', h1, h2, h3⟩ := rdS_canon (d :: t) _ s r h
          refine ⟨c :: s', by rw [h1]; simp, ?_, ?_⟩
          · rw [esc_cons, if_neg (by rintro (z | z); exact e z; exact e2 z), h2]
            rfl
          · intro y hy
            rcases List.mem_cons.mp hy with hy | hy
            · rw [hy]
              exact e4
            · exact h3 y hy
        · rw [if_neg e4] at h
          cases h
theorem rdN_canon {neg : Bool} {l r : List Nat} {n : Int} (h : rdN neg l = (some n, r)) : (if neg then 45 :: l else l) = dg n ++ r ∧ n.natAbs < 10 ^ 30 := by
  cases l with
  | nil => cases h
  | cons d t =>
    rw [rdN_cons] at h
    by_cases e : d = 48
    · rw [if_pos e] at h
      cases neg with
      | true => cases h
      | false =>
        cases h
        refine ⟨?_, by decide⟩
        rw [e, show dg 0 = [48] by decide +kernel]
        rfl
    · rw [if_neg e] at h
      by_cases e2 : 49 ≤ d ∧ d ≤ 57
      · rw [if_pos e2] at h
        have h1 : some (sgn neg (digitsVal (takeD 30 (d :: t)))) = some n := congrArg Prod.fst h
        have h2 : (d :: t).drop (takeD 30 (d :: t)).length = r := congrArg Prod.snd h
        have h1 := Option.some.inj h1
        have hD : takeD 30 (d :: t) = d :: takeD 29 t := by rw [takeD, if_pos (isDig_iff.mpr (by omega))]
        have hall : AllDigits (takeD 30 (d :: t)) := all_digits
        have hv := val_lt30 hall (takeD_len 30 (d :: t)).1
        have hcat : takeD 30 (d :: t) ++ r = d :: t := by
          rw [← h2, ← takeD_take 30 (d :: t)]
          rw [List.length_take, Nat.min_eq_left (takeD_len 30 (d :: t)).2]
          exact List.take_append_drop _ _
        refine ⟨?_, ?_⟩
        · rw [← h1]
          rw [hD] at hall hcat ⊢
          rw [dg_D hall e2.1, ← hcat]
          cases neg <;> rfl
        · rw [← h1]
          unfold sgn
          split <;> omega
      · rw [if_neg e2] at h
        cases h
theorem rdI_canon {l r : List Nat} {n : Int} (h : rdI l = (some n, r)) : l = dg n ++ r ∧ n.natAbs < 10 ^ 30 := by
  cases l with
  | nil => cases h
  | cons c t =>
    rw [rdI_cons] at h
    by_cases e : c = 45
    · rw [if_pos e] at h
      have := rdN_canon h
      rw [e]
      exact this
    · rw [if_neg e] at h
      exact rdN_canon h
theorem wf_intI {n : Nat} {i : Int} (h : i.natAbs < 10 ^ 30) : Wf n (.int i) := by
  cases n <;> exact h
theorem wf_strI {n : Nat} {z : Str} (h : ∀ c ∈ cs z, plainC c = true) : Wf n (.str z) := by
  cases n <;> exact h
theorem wf_nonI {n : Nat} : Wf n .none := by
  cases n <;> trivial
theorem Rd.canon {m : Md} {l : List Nat} {o : Option PyData} {r : List Nat} (h : Rd m l o r) : ∀ d, o = some d → match m with
    | .one k => k ≤ 30 → l = pk d ++ r ∧ Wf (30 - k) d
    | .many k acc => k ≤ 30 → (∀ e ∈ acc, Wf (30 - k) e) → ∃ ds, d = .tuple (acc ++ ds) ∧ ds ≠ [] ∧ l = commas (ds.map pk) ++ 41 :: r ∧ ∀ e ∈ ds, Wf (30 - k) e := by
  induction h with
  | eof k => exact fun d h => by cases h
  | dot k r =>
    intro d h hk
    cases h
    exact ⟨by rw [pk]; rfl, wf_nonI⟩
  | str k r =>
    intro d h hk
    cases e : rdS r [] with
    | mk a b =>
      rw [e] at h
      cases a with
      | none => cases h
      | some s =>
        cases h
        obtain ⟨s', h1, h2, h3⟩ := rdS_canon r [] s b e
        rw [List.nil_append] at h1
        subst h1
        refine ⟨?_, wf_strI (by rw [cs_S]; exact h3)⟩
        rw [pk_str, cs_S, h2]
        simp
  | deep k r hk => exact fun d h => by cases h
  | tup0 k r hk =>
    intro d h _
    cases h
    refine ⟨by rw [pk, pks]; rfl, ?_⟩
    obtain ⟨n, hn⟩ : ∃ n, 30 - k = n + 1 := ⟨30 - k - 1, by omega⟩
    rw [hn]
    exact fun d hd => by cases hd
  | tup k r o1 r1 hk hh h1 ih =>
    intro d h _
    obtain ⟨ds, e1, e2, e3, e4⟩ := ih d h (by omega) (by simp)
    rw [List.nil_append] at e1
    subst e1
    refine ⟨?_, ?_⟩
    · rw [pk, pks_map, e3]
      simp
    · obtain ⟨n, hn⟩ : ∃ n, 30 - k = n + 1 := ⟨30 - k - 1, by omega⟩
      rw [hn]
      rw [show 30 - (k + 1) = n by omega] at e4
      exact e4
  | int k c r h1 h2 h3 =>
    intro d h hk
    cases e : rdI (c :: r) with
    | mk a b =>
      rw [e] at h
      cases a with
      | none => cases h
      | some n =>
        cases h
        obtain ⟨e1, e2⟩ := rdI_canon e
        refine ⟨?_, wf_intI e2⟩
        rw [pk]
        exact e1
  | bad k acc l r _ ih => exact fun d h => by cases h
  | close k acc l r d _ ih =>
    intro d' h hk ha
    cases h
    obtain ⟨e1, e2⟩ := ih d rfl hk
    refine ⟨[d], rfl, by simp, ?_, ?_⟩
    · rw [e1]
      rfl
    · intro e he
      rw [List.mem_singleton.mp he]
      exact e2
  | next k acc l r d o1 r1 _ _ ih ih2 =>
    intro d' h hk ha
    obtain ⟨e1, e2⟩ := ih d rfl hk
    obtain ⟨ds, f1, f2, f3, f4⟩ := ih2 d' h hk (by
      intro e he
      rcases List.mem_append.mp he with he | he
      · exact ha e he
      · rw [List.mem_singleton.mp he]
        exact e2)
    refine ⟨d :: ds, by rw [f1, List.append_assoc]; rfl, by simp, ?_, ?_⟩
    · rw [e1, f3]
      cases ds with
      | nil => exact absurd rfl f2
      | cons y t =>
        show pk d ++ 44 :: _ = (pk d ++ 44 :: commas ((y :: t).map pk)) ++ _
        simp
    · intro e he
      rcases List.mem_cons.mp he with he | he
      · rw [he]
        exact e2
      · exact f4 e he
  | stop k acc l r d _ h41 h44 ih => exact fun d' h => by cases h
theorem canon {l : List Nat} {d : PyData} (h : Rd (.one 0) l (some d) []) : l = pk d ∧ Wf 30 d := by
  obtain ⟨e1, e2⟩ := h.canon d rfl (by omega)
  rw [List.append_nil] at e1
  exact ⟨e1, e2⟩
end Kb

namespace Kb
open PySem PySem.Spec PyProof.Rows L2
open PySem.NumText (digitsVal AllDigits)
theorem dg_sign (i : Int) : ∀ c ∈ dg i, c = 45 ∨ isDig c = true := by
  intro c hc
  by_cases h : 0 ≤ i
  · exact .inr (dg_dig h c hc)
  · obtain ⟨n, hn, rfl⟩ : ∃ n : Nat, 0 < n ∧ i = -(n : Int) := ⟨i.natAbs, by omega, by omega⟩
    rw [dg_neg n hn, ← dg_nat] at hc
    rcases List.mem_cons.mp hc with hc | hc
    · exact .inl hc
    · exact .inr (dg_dig (by omega) c hc)
theorem dig_plain {c : Nat} (h : c = 45 ∨ isDig c = true) : plainC c = true := by
  rcases h with h | h
  · rw [h]
    rfl
  · have := isDig_iff.mp h
    unfold plainC
    simp
    omega
theorem esc_plain : ∀ l : List Nat, (∀ c ∈ l, plainC c = true) → ∀ c ∈ esc l, plainC c = true
  | [], _, c, hc => by cases hc
  | x :: r, h, c, hc => by
    rw [esc_cons] at hc
    have ih := esc_plain r (fun y hy => h y (List.mem_cons_of_mem _ hy))
    split at hc
    · rcases List.mem_cons.mp hc with hc | hc
      · rw [hc]
        decide
      · rcases List.mem_cons.mp hc with hc | hc
        · rw [hc]
          exact h x List.mem_cons_self
        · exact ih c hc
    · rcases List.mem_cons.mp hc with hc | hc
      · rw [hc]
        exact h x List.mem_cons_self
      · exact ih c hc
theorem commas_plain : ∀ ys : List (List Nat), (∀ y ∈ ys, ∀ c ∈ y, plainC c = true) → ∀ c ∈ commas ys, plainC c = true
  | [], _, c, hc => by cases hc
  | [x], h, c, hc => h x List.mem_cons_self c hc
  | x :: y :: r, h, c, hc => by
    have hc : c ∈ x ++ 44 :: commas (y :: r) := hc
    rcases List.mem_append.mp hc with hc | hc
    · exact h x List.mem_cons_self c hc
    · rcases List.mem_cons.mp hc with hc | hc
      · rw [hc]
        decide
      · exact commas_plain (y :: r) (fun y hy => h y (List.mem_cons_of_mem _ hy)) c hc
theorem pk_plain : ∀ (n : Nat) (d : PyData), Wf n d → ∀ c ∈ pk d, plainC c = true := by
  intro n
  have leaf : ∀ d : PyData, (∀ ds, d ≠ .tuple ds) → Wf n d → ∀ c ∈ pk d, plainC c = true := by
    intro d hd hw c hc
    cases d with
    | none =>
      rw [pk] at hc
      rw [List.mem_singleton.mp hc]
      decide
    | int i =>
      rw [pk] at hc
      exact dig_plain (dg_sign i c hc)
    | str z =>
      rw [pk_str] at hc
      have hz := List.all_eq_true.mp (wf_str hw)
      rcases List.mem_cons.mp hc with hc | hc
      · rw [hc]
        decide
      · rcases List.mem_append.mp hc with hc | hc
        · exact esc_plain _ hz c hc
        · rw [List.mem_singleton.mp hc]
          decide
    | tuple ds => exact absurd rfl (hd ds)
    | _ => rw [pk] at hc <;> first | cases hc | (intros; simp_all)
  induction n with
  | zero =>
    intro d hw
    refine leaf d (fun ds e => ?_) hw
    subst e
    exact hw
  | succ n ih =>
    intro d hw
    by_cases ht : ∃ ds, d = .tuple ds
    · obtain ⟨ds, rfl⟩ := ht
      intro c hc
      rw [pk, pks_map] at hc
      have hw := wf_mem hw
      rcases List.mem_cons.mp hc with hc | hc
      · rw [hc]
        decide
      · rcases List.mem_append.mp hc with hc | hc
        · refine commas_plain _ (fun y hy c hc => ?_) c hc
          obtain ⟨d, hd, rfl⟩ := List.mem_map.mp hy
          refine ih ?_ d (hw d hd) c hc
          intro d hd hw c hc
          cases d with
          | none =>
            rw [pk] at hc
            rw [List.mem_singleton.mp hc]
            decide
          | int i =>
            rw [pk] at hc
            exact dig_plain (dg_sign i c hc)
          | str z =>
            rw [pk_str] at hc
            have hz := List.all_eq_true.mp (wf_str hw)
            rcases List.mem_cons.mp hc with hc | hc
            · rw [hc]
              decide
            · rcases List.mem_append.mp hc with hc | hc
              · exact esc_plain _ hz c hc
              · rw [List.mem_singleton.mp hc]
                decide
          | tuple ds => exact absurd rfl (hd ds)
          | _ => rw [pk] at hc <;> first | cases hc | (intros; simp_all)
        · rw [List.mem_singleton.mp hc]
          decide
    · exact leaf d (fun ds e => ht ⟨ds, e⟩) hw
/-! drawn things are read as they are written -/
theorem rdS_step (c : Nat) (t acc : List Nat) (ht : t ≠ []) (h1 : c ≠ 39) (h2 : c ≠ 126) (h3 : plainC c = true) : rdS (c :: t) acc = rdS t (acc ++ [c]) := by
  cases t with
  | nil => exact absurd rfl ht
  | cons d r => rw [rdS_two, if_neg h1, if_neg h2, if_pos h3]
theorem rdS_whole : ∀ (l acc r : List Nat), (∀ c ∈ l, plainC c = true) → rdS (esc l ++ 39 :: r) acc = (some (acc ++ l), r)
  | [], acc, r, _ => by
    show rdS (39 :: r) acc = _
    rw [rdS_39, List.append_nil]
  | c :: l, acc, r, h => by
    have ih := fun acc => rdS_whole l acc r fun x hx => h x (List.mem_cons_of_mem _ hx)
    rw [esc_cons]
    split
    · rename_i hc
      show rdS (126 :: c :: (esc l ++ 39 :: r)) acc = _
      rw [rdS_two, if_neg (by decide), if_pos rfl, if_pos hc, ih, List.append_assoc]
      rfl
    · rename_i hc
      show rdS (c :: (esc l ++ 39 :: r)) acc = _
      rw [rdS_step c _ acc (by simp) (fun z => hc (.inl z)) (fun z => hc (.inr z)) (h c List.mem_cons_self), ih, List.append_assoc]
      rfl
theorem not41 {k : Nat} {r r' : List Nat} {d : PyData} (h : Rd (.one k) (41 :: r) (some d) r') : False := by
  generalize hl : (41 :: r : List Nat) = l at h
  generalize ho : some d = o at h
  cases h with
  | eof => cases ho
  | dot => cases hl
  | str => cases hl
  | deep => cases ho
  | tup0 => cases hl
  | tup => cases hl
  | int k c t h1 h2 h3 =>
    cases hl
    cases ho
theorem ints_read : ∀ i ∈ drInts, rdI (dg i) = (some i, []) ∧ (dg i).head? ≠ some 46 ∧ (dg i).head? ≠ some 39 ∧ (dg i).head? ≠ some 40 ∧ dg i ≠ [] := by decide +kernel
theorem stop41 (r : List Nat) : Stops (41 :: r) := fun c hc => by
  cases hc
  decide
theorem stop44 (r : List Nat) : Stops (44 :: r) := fun c hc => by
  cases hc
  decide
theorem many_read {n k : Nat} {r : List Nat} : ∀ (ds : List PyData) (acc : List PyData), ds ≠ [] → (∀ d ∈ ds, ∀ x, Stops x → Rd (.one k) (pk d ++ x) (some d) x) → Rd (.many k acc) (commas (ds.map pk) ++ 41 :: r) (some (.tuple (acc ++ ds))) r
  | [], _, h, _ => absurd rfl h
  | [d], acc, _, h => .close k acc _ r d (h d List.mem_cons_self _ (stop41 r))
  | d :: e :: t, acc, _, h => by
    have ih := many_read (n := n) (r := r) (e :: t) (acc ++ [d]) (by simp) fun x hx => h x (List.mem_cons_of_mem _ hx)
    rw [List.append_assoc] at ih
    have h1 := h d List.mem_cons_self (44 :: (commas ((e :: t).map pk) ++ 41 :: r)) (stop44 _)
    have h2 := Rd.next k acc _ _ d _ r h1 ih
    have e1 : commas ((d :: e :: t).map pk) ++ 41 :: r = pk d ++ 44 :: (commas ((e :: t).map pk) ++ 41 :: r) := by
      show (pk d ++ 44 :: commas ((e :: t).map pk)) ++ 41 :: r = _
      simp
    rw [e1]
    exact h2
theorem rt {n : Nat} {d : PyData} (h : Dr n d) : ∀ (k : Nat) (r : List Nat), k + n ≤ 30 → Stops r → Rd (.one k) (pk d ++ r) (some d) r := by
  induction h with
  | non n =>
    intro k r _ _
    rw [pk]
    exact .dot k r
  | @int n i hi =>
    intro k r _ hr
    rw [pk]
    obtain ⟨h1, h2, h3, h4, h5⟩ := ints_read i hi
    have h6 := rdI_ext hr h1
    cases e : dg i with
    | nil => exact absurd e h5
    | cons c t =>
      rw [e] at h2 h3 h4 h6
      have hh := Rd.int k c (t ++ r) (fun z => h2 (by rw [z]; rfl)) (fun z => h3 (by rw [z]; rfl)) (fun z => h4 (by rw [z]; rfl))
      rw [← List.cons_append, h6] at hh
      exact hh
  | @str n z hz hl =>
    intro k r _ _
    rw [pk_str]
    have hh := Rd.str k (esc (cs z) ++ 39 :: r)
    rw [rdS_whole _ _ _ hz] at hh
    have e : (39 :: (esc (cs z) ++ [39])) ++ r = 39 :: (esc (cs z) ++ 39 :: r) := by simp
    rw [e]
    have e2 : (some ([] ++ cs z) : Option (List Nat)).map (fun l => PyData.str (S l)) = some (.str z) := by
      rw [List.nil_append, Option.map_some, S_cs]
    rw [e2] at hh
    exact hh
  | @tup n ds hl _ ih =>
    intro k r hk hr
    rw [pk, pks_map]
    cases ds with
    | nil => exact .tup0 k r (by omega)
    | cons d t =>
      have hm := many_read (n := n) (k := k + 1) (r := r) (d :: t) [] (by simp) fun x hx y hy => ih x hx (k + 1) y (by omega) hy
      rw [List.nil_append] at hm
      have e : (40 :: (commas ((d :: t).map pk) ++ [41])) ++ r = 40 :: (commas ((d :: t).map pk) ++ 41 :: r) := by simp
      rw [e]
      refine .tup k _ _ r (by omega) (fun hh => ?_) hm
      cases e2 : commas ((d :: t).map pk) ++ 41 :: r with
      | nil => simp at e2
      | cons c u =>
        rw [e2] at hh hm
        have hh : c = 41 := Option.some.inj hh
        subst hh
        generalize hd : (some (PyData.tuple (d :: t))) = o at hm
        cases hm with
        | bad => cases hd
        | close _ _ _ _ _ h1 => exact not41 h1
        | next _ _ _ _ _ _ _ h1 => exact not41 h1
        | stop => cases hd
theorem rt0 {n : Nat} {d : PyData} (h : Dr n d) (hn : n ≤ 30) : Rd (.one 0) (pk d) (some d) [] := by
  have := rt h 0 [] (by omega) (fun c hc => by cases hc)
  rw [List.append_nil] at this
  exact this
def mostL : Nat → Nat
  | 0 => 31
  | n + 1 => 3 * mostL n + 4
theorem ints_len : ∀ i ∈ drInts, (dg i).length ≤ 31 := by decide +kernel
theorem mostL_lo : ∀ n, 31 ≤ mostL n
  | 0 => Nat.le_refl _
  | n + 1 => by
    have := mostL_lo n
    show 31 ≤ 3 * mostL n + 4
    omega
theorem sum_le {m : Nat} : ∀ l : List Nat, (∀ x ∈ l, x ≤ m) → l.sum ≤ l.length * m
  | [], _ => Nat.zero_le _
  | x :: r, h => by
    have h1 := h x List.mem_cons_self
    have h2 := sum_le r fun y hy => h y (List.mem_cons_of_mem _ hy)
    rw [List.sum_cons, List.length_cons, Nat.succ_mul]
    omega
theorem pk_most {n : Nat} {d : PyData} (h : Dr n d) : (pk d).length ≤ mostL n := by
  induction h with
  | non n =>
    have := mostL_lo n
    rw [pk]
    exact Nat.le_trans (by decide) this
  | @int n i hi =>
    rw [pk]
    exact Nat.le_trans (ints_len i hi) (mostL_lo n)
  | @str n z hz hl =>
    have := mostL_lo n
    have h2 := esc_len (cs z)
    rw [pk_str, List.length_cons, List.length_append]
    simp only [List.length_cons, List.length_nil]
    omega
  | @tup n ds hl _ ih =>
    have h1 := pk_tup_len ds
    have h2 := commas_len (ds.map pk)
    have h3 : ((ds.map pk).map List.length).sum ≤ ((ds.map pk).map List.length).length * mostL n := sum_le _ fun x hx => by
      obtain ⟨y, hy, rfl⟩ := List.mem_map.mp hx
      obtain ⟨d, hd, rfl⟩ := List.mem_map.mp hy
      exact ih d hd
    rw [List.length_map, List.length_map] at h3
    have h4 : ds.length * mostL n ≤ 3 * mostL n := Nat.mul_le_mul_right _ hl
    rw [List.length_map] at h2
    rw [h1]
    show _ ≤ 3 * mostL n + 4
    split at h2 <;> omega
end Kb

namespace Kb
open PySem PySem.Spec PyProof.Rows L2
/-! sealed texts -/
def sl (p : List Nat) : List Nat := p ++ 35 :: dg (ck p)
def Seal (l : List Nat) (d : PyData) : Prop := ∃ a, l = sl a ∧ Rd (.one 0) a (some d) []
theorem sl_inj {a b : List Nat} (h : sl a = sl b) : a = b := (last35_one h (no35 (ck_lo a)) (no35 (ck_lo b))).1
theorem seal_one {l : List Nat} {d e : PyData} (h : Seal l d) (h2 : Seal l e) : d = e := by
  obtain ⟨a, e1, r1⟩ := h
  obtain ⟨b, e2, r2⟩ := h2
  have := sl_inj (e1.symm.trans e2)
  subst this
  exact Option.some.inj (r1.det r2).1
theorem num_inj {c s : Nat} (hc : textC c = true) (hs : textC s = true) (h : num c = num s) : c = s := by
  unfold textC plainC at hc hs
  unfold num at h
  simp at hc hs
  split at h <;> split at h <;> omega
/-- two sums that are alike by the check -/
theorem far {x y : Int} {b : Int} (h : x % 99991 = y % 99991) (h1 : x - y < 99991) (h2 : -99991 < x - y) : x = y := by omega
theorem put_check {u w : List Nat} {c s : Nat} (hc : textC c = true) (hs : textC s = true) (hl : u.length ≤ 1000) (h : ck (u ++ c :: w) = ck (u ++ s :: w)) : c = s := by
  unfold ck at h
  rw [sm_app, sm_app, sm_cons, sm_cons] at h
  have c0 := num_lo hc
  have c1 := num_hi hc
  have s0 := num_lo hs
  have s1 := num_hi hs
  obtain ⟨n, hn⟩ : ∃ n : Nat, u.length = n := ⟨_, rfl⟩
  rw [hn] at h hl
  generalize sm 1 u = A at h
  generalize sm (1 + n + 1) w = B at h
  have hd : ((1 + n : Nat) : Int) * num c - ((1 + n : Nat) : Int) * num s = ((1 + n : Nat) : Int) * (num c - num s) := (Int.mul_sub _ _ _).symm
  have k0 : (0 : Int) < ((1 + n : Nat) : Int) := by omega
  have k1 : ((1 + n : Nat) : Int) ≤ 1001 := by omega
  generalize ((1 + n : Nat) : Int) = k at h hd k0 k1
  have b1 : k * (num c - num s) ≤ k * 95 := Int.mul_le_mul_of_nonneg_left (by omega) (by omega)
  have b2 : k * (-95) ≤ k * (num c - num s) := Int.mul_le_mul_of_nonneg_left (by omega) (by omega)
  have hz : k * (num c - num s) = 0 := by omega
  rcases Int.mul_eq_zero.mp hz with hz | hz
  · omega
  · exact num_inj hc hs (by omega)
theorem swap_check {u w : List Nat} {c s : Nat} (hc : textC c = true) (hs : textC s = true) (h : ck (u ++ c :: s :: w) = ck (u ++ s :: c :: w)) : c = s := by
  unfold ck at h
  rw [sm_app, sm_app, sm_cons, sm_cons, sm_cons, sm_cons] at h
  have c0 := num_lo hc
  have c1 := num_hi hc
  have s0 := num_lo hs
  have s1 := num_hi hs
  generalize sm 1 u = A at h
  generalize sm (1 + u.length + 1 + 1) w = B at h
  have e : ((1 + u.length + 1 : Nat) : Int) = ((1 + u.length : Nat) : Int) + 1 := by omega
  rw [e] at h
  generalize ((1 + u.length : Nat) : Int) = k at h
  have e1 : (k + 1) * num s = k * num s + num s := by rw [Int.add_mul, Int.one_mul]
  have e2 : (k + 1) * num c = k * num c + num c := by rw [Int.add_mul, Int.one_mul]
  rw [e1, e2] at h
  generalize k * num s = X at h
  generalize k * num c = Y at h
  exact num_inj hc hs (by omega)
/-- the # that is looked for -/
theorem q35 (a : List Nat) : 35 ∉ dg (ck a) := no35 (ck_lo a)
theorem not_text35 : isDig 35 = false := by decide
theorem no_put {p : List Nat} {d : PyData} (hp : Rd (.one 0) p (some d) []) (hpt : ∀ c ∈ p, textC c = true) (hl : p.length ≤ 1000) {u v : List Nat} {c s : Nat} (hs : textC s = true) (ht : sl p = u ++ c :: v) (hcs : s ≠ c) : ∀ e, ¬ Seal (u ++ s :: v) e := by
  rintro e ⟨a, ea, ha⟩
  unfold sl at ht ea
  have qp := q35 p
  have qa := q35 a
  have hqp : ∀ x ∈ dg (ck p), isDig x = true := dg_dig (ck_lo p)
  generalize hq : dg (ck p) = q at ht qp hqp
  generalize he : dg (ck a) = f at ea qa
  have mid : u = p → c = 35 → v = q → False := by
    rintro rfl rfl rfl
    rcases List.append_eq_append_iff.mp ea with ⟨w, e1, e2⟩ | ⟨w, e1, e2⟩
    · cases w with
      | nil => exact hcs (List.cons.inj e2).1
      | cons y w =>
        have := (List.cons.inj e2).2
        exact qp (by rw [this]; simp)
    · cases w with
      | nil => exact hcs (List.cons.inj e2).1.symm
      | cons y w =>
        have h0 := (List.cons.inj e2).1
        exact no_more hp ha (by rw [e1, h0]) not_text35
  rcases List.append_eq_append_iff.mp ht with ⟨w, e1, e2⟩ | ⟨w, e1, e2⟩
  · -- u = p ++ w
    cases w with
    | nil =>
      rw [List.append_nil] at e1
      exact mid e1 (List.cons.inj e2).1.symm (List.cons.inj e2).2.symm
    | cons y w =>
      obtain ⟨rfl, e3⟩ := List.cons.inj e2
      rcases List.append_eq_append_iff.mp ea with ⟨x, f1, f2⟩ | ⟨x, f1, f2⟩
      · exact no_more (p := a) (a := p) ha hp (by rw [f1, e1, List.append_assoc]; rfl) not_text35
      · cases x with
        | nil =>
          rw [List.append_nil] at f1
          exact no_more (p := a) (a := p) ha hp (by rw [← f1, e1]) not_text35
        | cons y x =>
          obtain ⟨rfl, f3⟩ := List.cons.inj f2
          have g : p ++ 35 :: w = a ++ 35 :: x := e1.symm.trans f1
          obtain ⟨g1, g2⟩ := last35_one g (fun z => qp (by rw [e3]; exact List.mem_append_left _ z)) (fun z => qa (by rw [f3]; exact List.mem_append_left _ z))
          subst g1 g2
          rw [hq] at he
          rw [← he, e3] at f3
          exact hcs (List.cons.inj (List.append_cancel_left f3)).1.symm
  · -- p = u ++ w
    cases w with
    | nil =>
      rw [List.append_nil] at e1
      exact mid e1.symm (List.cons.inj e2).1 (List.cons.inj e2).2
    | cons y w =>
      obtain ⟨rfl, e3⟩ := List.cons.inj e2
      subst e3
      have g : (u ++ s :: w) ++ 35 :: q = a ++ 35 :: f := by
        rw [← ea]
        simp
      obtain ⟨g1, g2⟩ := last35_one g qp qa
      have hck : ck p = ck a := dg_inj (ck_lo p) (ck_lo a) (by rw [hq, he, g2])
      rw [e1, ← g1] at hck
      have hu : u.length ≤ 1000 := by
        rw [e1, List.length_append] at hl
        omega
      exact hcs (put_check (hpt c (by rw [e1]; simp)) hs hu hck).symm
theorem no_last {p : List Nat} {d : PyData} (hp : Rd (.one 0) p (some d) []) : ∀ e, ¬ Seal (sl p).dropLast e := by
  rintro e ⟨a, ea, ha⟩
  unfold sl at ea
  have qa := q35 a
  have qp := q35 p
  have h0 := dg_pos (ck p) (ck_lo p)
  generalize hq : dg (ck p) = q at ea h0 qp
  obtain ⟨q1, x, rfl⟩ : ∃ q1 x, q = q1 ++ [x] := ⟨q.dropLast, q.getLast (by intro z; rw [z] at h0; cases h0), (List.dropLast_concat_getLast _).symm⟩
  rw [show p ++ 35 :: (q1 ++ [x]) = (p ++ 35 :: q1) ++ [x] by simp, List.dropLast_concat] at ea
  obtain ⟨g1, g2⟩ := last35_one ea (fun z => qp (List.mem_append_left _ z)) qa
  subst g1
  rw [← g2] at hq
  have := congrArg List.length hq
  simp at this
theorem last_dig {d : PyData} {x : List Nat} {c : Nat} (hw : Wf 30 d) (h : pk d = x ++ [c]) (hc : isDig c = true) : ∃ i, d = .int i := by
  have fin : ∀ (y : List Nat) (b : Nat), pk d = y ++ [b] → isDig b = false → False := fun y b e hb => by
    rw [h] at e
    have := List.append_inj' e rfl
    have := (List.cons.inj this.2).1
    rw [this, hb] at hc
    cases hc
  cases d with
  | int i => exact ⟨i, rfl⟩
  | none => exact (fin [] 46 (by rw [pk]; rfl) (by decide)).elim
  | str z => exact (fin (39 :: esc (cs z)) 39 (by rw [pk_str]; rfl) (by decide)).elim
  | tuple ds => exact (fin (40 :: commas (pks ds)) 41 (by rw [pk]; rfl) (by decide)).elim
  | _ => exact hw.elim
theorem head_dig {n : Nat} {d : PyData} (hd : Dr n d) {i : Int} {y : List Nat} (hy : dg i = pk d ++ y) : ∃ j ∈ drInts, d = .int j := by
  have fin : ∀ (b : Nat) (r : List Nat), pk d = b :: r → ¬ (b = 45 ∨ isDig b = true) → False := fun b r e hb => by
    rw [e] at hy
    exact hb (dg_sign i b (by rw [hy]; simp))
  cases hd with
  | int _ hi => exact ⟨_, hi, rfl⟩
  | non => exact (fin 46 [] (by rw [pk]) (by decide)).elim
  | str => exact (fin 39 _ (pk_str _) (by decide)).elim
  | tup => exact (fin 40 _ (by rw [pk]) (by decide)).elim
theorem fin1 : ∀ i ∈ drInts, (match dg (ck (dg i)) with | c :: v => decide (v = dg (ck (dg i ++ [c]))) | [] => false) = false := by decide +kernel
theorem fin2 : ∀ i ∈ drInts, (match (dg i).getLast? with | some c => decide (dg (ck (dg i).dropLast) = c :: dg (ck (dg i))) | none => false) = false := by decide +kernel
theorem no_swap {n : Nat} {d : PyData} (hd : Dr n d) (hn : n ≤ 30) {u v : List Nat} {c s : Nat} (ht : sl (pk d) = u ++ c :: s :: v) (hcs : c ≠ s) : ∀ e, ¬ Seal (u ++ s :: c :: v) e := by
  rintro e ⟨a, ea, ha⟩
  have hp := rt0 hd hn
  obtain ⟨hca, hwa⟩ := canon ha
  obtain ⟨_, hwp⟩ := canon hp
  have hpt : ∀ x ∈ pk d, textC x = true := fun x hx => by
    unfold textC
    rw [pk_plain 30 d hwp x hx, Bool.or_true]
  generalize hpd : pk d = p at ht hp hpt
  unfold sl at ht ea
  have qp := q35 p
  have qa := q35 a
  have hqp : ∀ x ∈ dg (ck p), isDig x = true := dg_dig (ck_lo p)
  have hqa : ∀ x ∈ dg (ck a), isDig x = true := dg_dig (ck_lo a)
  generalize hq : dg (ck p) = q at ht qp hqp
  generalize he : dg (ck a) = f at ea qa hqa
  have mid : u = p → 35 :: q = c :: s :: v → False := by
    intro h1 h2
    subst h1
    obtain ⟨rfl, h3⟩ := List.cons.inj h2
    subst h3
    have g : (u ++ [s]) ++ 35 :: v = a ++ 35 :: f := by
      rw [← ea]
      simp
    obtain ⟨g1, g2⟩ := last35_one g (fun z => qp (List.mem_cons_of_mem _ z)) qa
    obtain ⟨i, hi⟩ := last_dig hwa (x := u) (c := s) (by rw [← hca, ← g1]) (hqp s List.mem_cons_self)
    rw [hi, pk] at hca
    obtain ⟨j, hj, hdj⟩ := head_dig hd (i := i) (y := [s]) (by rw [hpd, ← hca, ← g1])
    rw [hdj, pk] at hpd
    have hf := fin1 j hj
    rw [hpd, hq] at hf
    have hf : decide (v = dg (ck (u ++ [s]))) = false := hf
    exact of_decide_eq_false hf (by rw [g1, he, g2])
  rcases List.append_eq_append_iff.mp ht with ⟨w, e1, e2⟩ | ⟨w, e1, e2⟩
  · cases w with
    | nil =>
      rw [List.append_nil] at e1
      exact mid e1 e2
    | cons y w =>
      obtain ⟨rfl, e3⟩ := List.cons.inj e2
      have h35 : 35 ∉ w ++ s :: c :: v := fun z => qp (by
        rw [e3]
        rcases List.mem_append.mp z with z | z
        · exact List.mem_append_left _ z
        · refine List.mem_append_right _ ?_
          simp only [List.mem_cons] at z ⊢
          rcases z with z | z | z
          · exact .inr (.inl z)
          · exact .inl z
          · exact .inr (.inr z))
      have g : p ++ 35 :: (w ++ s :: c :: v) = a ++ 35 :: f := by
        rw [← ea, e1]
        simp
      obtain ⟨g1, g2⟩ := last35_one g h35 qa
      rw [← g1, hq, e3] at he
      rw [← he] at g2
      exact hcs (List.cons.inj (List.append_cancel_left g2)).1.symm
  · cases w with
    | nil =>
      rw [List.append_nil] at e1
      exact mid e1.symm e2.symm
    | cons y w =>
      obtain ⟨rfl, e3⟩ := List.cons.inj e2
      cases w with
      | nil =>
        obtain ⟨rfl, rfl⟩ := List.cons.inj e3
        have g : u ++ 35 :: (c :: v) = a ++ 35 :: f := ea
        obtain ⟨g1, g2⟩ := last35_one g (fun z => by
          rcases List.mem_cons.mp z with z | z
          · exact hcs z.symm
          · exact qp z) qa
        have hcd : isDig c = true := hqa c (by rw [← g2]; simp)
        obtain ⟨i, hi⟩ := last_dig hwp (x := u) (c := c) (by rw [hpd, e1]) hcd
        obtain ⟨j, hj, hdj⟩ := head_dig hd (i := i) (y := []) (by rw [hi, pk, List.append_nil])
        rw [hdj, pk] at hpd
        have hf := fin2 j hj
        rw [hpd, hq, e1, List.getLast?_concat, List.dropLast_concat] at hf
        have hf : decide (dg (ck u) = c :: v) = false := hf
        exact of_decide_eq_false hf (by rw [g1, he, g2])
      | cons y w =>
        obtain ⟨rfl, e4⟩ := List.cons.inj e3
        subst e4
        have g : (u ++ s :: c :: w) ++ 35 :: q = a ++ 35 :: f := by
          rw [← ea]
          simp
        obtain ⟨g1, g2⟩ := last35_one g qp qa
        have hck : ck p = ck a := dg_inj (ck_lo p) (ck_lo a) (by rw [hq, he, g2])
        rw [e1, ← g1] at hck
        exact hcs (swap_check (hpt c (by rw [e1]; simp)) (hpt s (by rw [e1]; simp)) hck)
end Kb

namespace Kb
open PySem PySem.Spec PyProof.Rows L2
abbrev sP_unsealed : Stmt := topS 25
abbrev NP_unsealed : List Str := ["text", "ahead", "_", "digits", "thing"]
theorem scP_unsealed : FnScope ["text", "ahead", "_", "digits", "thing"] ["text"] (defScope sP_unsealed) := ⟨rfl, rfl, rfl, by decide +kernel, rfl, by decide +kernel, by decide +kernel⟩
abbrev sdue : Stmt := topS 42
abbrev Ndue : List Str := ["_law_text", "_law_at", "_law_told"]
theorem scdue : FnScope ["_law_text", "_law_at", "_law_told"] ["_law_text"] (defScope sdue) := ⟨rfl, rfl, rfl, by decide +kernel, rfl, by decide +kernel, by decide +kernel⟩
theorem q35s : Str.ofString "#" = S [35] := by decide +kernel
theorem qhash : (Str.ofString "#").cps.toList = [35] := by decide +kernel
theorem qhash1 : (Str.ofString "#").length = 1 := by decide +kernel
/-! where # stands -/
theorem at35 {x : Str} {i : Nat} : PySem.StrLaws.At x (Str.ofString "#") x.length i ↔ (cs x)[i]? = some 35 := by
  unfold PySem.StrLaws.At
  rw [PySem.StrLaws.subAt_eq, qhash1, qhash]
  have hx := cs_len x
  show i + 1 ≤ x.length ∧ ((((cs x).drop i).take 1 == [35]) = true) ↔ _
  rw [beq_iff_eq]
  constructor
  · rintro ⟨h1, h2⟩
    rw [drop_at (show i < (cs x).length by omega)] at h2
    have h2 : [(cs x)[i]] = [35] := h2
    rw [List.getElem?_eq_getElem (show i < (cs x).length by omega)]
    exact congrArg some (List.cons.inj h2).1
  · intro h
    have hi : i < (cs x).length := (List.getElem?_eq_some_iff.mp h).1
    refine ⟨by omega, ?_⟩
    rw [drop_at hi]
    rw [List.getElem?_eq_getElem hi] at h
    show [(cs x)[i]] = [35]
    rw [Option.some.inj h]
theorem at_mid (l r : List Nat) : (l ++ 35 :: r)[l.length]? = some 35 := by simp
theorem rpart_none {x : Str} (h : 35 ∉ cs x) : Builtin.Str.lastOccurrence x (Str.ofString "#") 0 x.length = none := by
  rcases PySem.StrLaws.last_spec x (Str.ofString "#") with ⟨e, _⟩ | ⟨i, _, hi, _⟩
  · exact e
  · exact absurd (List.mem_of_getElem? (at35.mp hi)) h
theorem rpart_some {x : Str} {l r : List Nat} (h : cs x = l ++ 35 :: r) (hr : 35 ∉ r) : Builtin.Str.lastOccurrence x (Str.ofString "#") 0 x.length = some l.length := by
  rcases PySem.StrLaws.last_spec x (Str.ofString "#") with ⟨_, hn⟩ | ⟨i, e, hi, hk⟩
  · exact absurd (at35.mpr (by rw [h]; exact at_mid l r)) (hn l.length)
  · rw [e]
    congr 1
    have h1 := at35.mp hi
    rcases Nat.lt_trichotomy i l.length with g | g | g
    · exact absurd (at35.mpr (by rw [h]; exact at_mid l r)) (hk l.length g)
    · exact g
    · exfalso
      rw [h, List.getElem?_append_right (by omega)] at h1
      obtain ⟨j, hj⟩ : ∃ j, i - l.length = j + 1 := ⟨i - l.length - 1, by omega⟩
      rw [hj, List.getElem?_cons_succ] at h1
      exact hr (List.mem_of_getElem? h1)
theorem first_some {x : Str} {l r : List Nat} (h : cs x = l ++ 35 :: r) (hl : 35 ∉ l) : ∃ rest, Builtin.Str.occurrences x (Str.ofString "#") 0 x.length 1 = l.length :: rest := by
  rcases PySem.StrLaws.occ_head x (Str.ofString "#") 1 (Nat.le_refl _) with ⟨_, hn⟩ | ⟨i, rest, e, hi, hk⟩
  · exact absurd (at35.mpr (by rw [h]; exact at_mid l r)) (hn l.length)
  · refine ⟨rest, ?_⟩
    rw [e]
    congr 1
    have h1 := at35.mp hi
    rcases Nat.lt_trichotomy i l.length with g | g | g
    · exfalso
      rw [h, List.getElem?_append_left g] at h1
      exact hl (List.mem_of_getElem? h1)
    · exact g
    · exact absurd (at35.mpr (by rw [h]; exact at_mid l r)) (hk l.length g)
section
variable {X : Cx}
/-- text.rpartition('#') -/
theorem mt_rpart : MtR X "str.rpartition" (fun x xs H Q => ∃ z, x = .str z ∧ xs = [.str (Str.ofString "#")] ∧ z.length ≤ sizeLine ∧ (35 ∉ cs z → ∀ T, H T = none → Q (.ref T) (upd H T (.tup [.str (S []), .str (S []), .str z]))) ∧
    (∀ l r, cs z = l ++ 35 :: r → 35 ∉ r → ∀ T, H T = none → Q (.ref T) (upd H T (.tup [.str (S l), .str (S [35]), .str (S r)])))) := by
  intro pins s σ H x xs v us Q I rx rs h
  obtain ⟨z, ex, exs, fits, without, with_⟩ := h
  subst ex exs
  obtain ⟨tz, ez⟩ := rx
  subst ez
  cases rs with
  | cons rsep none_ =>
    cases none_
    obtain ⟨tsep, esep⟩ := rsep
    subst esep
    refine call_meets F.slot_str_rpartition (typeIs_str _ _ _) F.entry_str_rpartition (F.args_str_rpartition_2 _ _) (meets_str_rpartition z (Str.ofString "#") tz tsep (by decide +kernel) fits) ?_
    by_cases hz : 35 ∈ cs z
    · obtain ⟨l, r, e, hr⟩ := last35 _ hz
      have q := with_ l r e hr
      rw [rpart_some e hr]
      have e1 : Builtin.Str.strSub z 0 l.length = S l := by
        apply cs_inj
        show (Builtin.Str.strSub z 0 l.length).cps.toList = _
        rw [PySem.StrLaws.strSub_toList, cs_S, show z.cps.toList = l ++ 35 :: r from e]
        simp
      have e2 : Builtin.Str.strSub z (l.length + (Str.ofString "#").length) z.length = S r := by
        apply cs_inj
        show (Builtin.Str.strSub z (l.length + (Str.ofString "#").length) z.length).cps.toList = _
        rw [PySem.StrLaws.strSub_toList, cs_S, qhash1, ← cs_len z, show z.cps.toList = l ++ 35 :: r from e, e, show l ++ 35 :: r = (l ++ [35]) ++ r by simp]
        simp
        exact List.take_of_length_le (by omega)
      rw [← e1, ← e2, ← q35s] at q
      exact laid_parts I q
    · have q := without hz
      rw [rpart_none hz]
      exact laid_parts I q
end
section
variable {P : Program} {w : World} {K : PySem.W.Frag} {mg : Str → Option Value} {base : Heap}
abbrev DnUnsealedP (K : PySem.W.Frag) (mg : Str → Option Value) := Dn K mg "unsealed" sP_unsealed ["text"]
abbrev DnDue (K : PySem.W.Frag) (mg : Str → Option Value) := Dn K mg "_law_due" sdue ["_law_text"]
/-! _law_check -/
def spCheckL : Sp := fun vs H Q _ => ∃ (z : Str), vs = [.str z] ∧ (cs z).length ≤ 100000 ∧ (∀ c ∈ cs z, textC c = true) ∧ ∀ H', Same H H' → Q (.int (ck (cs z))) H'
theorem ok_checkL (T : Blt mg) (d : DnCheckL K mg) : FnOk P w K mg base CX0 1 d.f d.fd ["_law_text"] spCheckL := by
  refine d.F.ok sccheck (fun vs H Q E h => ?_) (fun cdv A outer s H vs Q E hr h => ?_)
  · obtain ⟨z, rfl, _⟩ := h
    rfl
  · obtain ⟨z, rfl, hz, hc, q⟩ := h
    have hlz := cs_len z
    have hl : z.length ≤ sizeLine := by rw [sizeLine_eq, ← cs_len]; omega
    refine ⟨_, (pss_cons (ps_set (i := 1) sccheck.nd rfl (Or.inl rfl) pe_int)
    (pss_cons (ps_for PassesOwn.never rfl (pi_range1 (by rfl) T.n_range (pa_cons (pe_callB call_len_str (by rfl) T.n_len (by decide +kernel) (pa_cons (pv 0) pa_nil)) pa_nil)) (pg_name (i := 2) sccheck.nd rfl (Or.inl rfl))
      (pss_cons (ps_set (i := 3) sccheck.nd rfl (Or.inl rfl) (pe_ifExp (pt_cmpR op_eq (pe_ix ix_str (pv 0) (pv 2) (fun _ _ => rfl)) pe_str (nomark _)) pe_int (pe_op op_sub (pe_callB call_ord (by rfl) T.n_ord (by decide +kernel) (pa_cons (pe_ix ix_str (pv 0) (pv 2) (fun _ _ => rfl)) pa_nil)) pe_int)))
      (pss_one (ps_set (i := 1) sccheck.nd rfl (Or.inl rfl) (pe_op op_modB (pe_callTy call_int1 (by rfl) T.n_int (by decide +kernel) (pa_cons (pe_op op_add (pv 1) (pe_op op_mul (pe_op op_add (pv 2) pe_int) (pv 3))) pa_nil)) pe_int)))))
    (pss_one (ps_ret (pv 1))))), ?_⟩
    refine ⟨.str z, rfl, _, rfl, hl, _, rfl, by omega, by omega, for_range (lo := 0) (n := z.length) (fun i σ H' => ∃ y2 y3 : Option V, σ = [some (.str z), some (.int (sm 1 ((cs z).take i) % 99991)), y2, y3] ∧ Same H H') ⟨none, none, rfl, Same.refl H⟩ ?_ ?_⟩
    · rintro i σ H1 hi ⟨y2, y3, rfl, s1⟩
      have hi2 : i < (cs z).length := by omega
      have ec : (cs z)[i]? = some (cs z)[i] := List.getElem?_eq_getElem hi2
      have hct := hc _ (List.getElem_mem hi2)
      generalize (cs z)[i] = c at ec hct
      have h0 : (0 : Int) + (i : Int) = (i : Int) := Int.zero_add _
      rw [h0]
      have fin : ∃ y2 y3 : Option V, [some (V.str z), some (.int ((sm 1 ((cs z).take i) % 99991 + ((i : Int) + 1) * num c) % 99991)), some (.int (i : Int)), some (.int (num c))] = [some (.str z), some (.int (sm 1 ((cs z).take (i + 1)) % 99991)), y2, y3] ∧ Same H H1 := by
        refine ⟨some (.int (i : Int)), some (.int (num c)), ?_, s1⟩
        rw [sm_take ec, Int.emod_add_emod]
      refine ⟨.str z, rfl, .int (i : Int), rfl, z, _, c, rfl, rfl, hl, atI_nat ec, rfl, _, rfl, ite2 (fun e => ?_) (fun e => ?_)⟩
      · have e2 := sg_t q10 e
        have hn : num c = 0 := by rw [num, if_pos e2]
        rw [hn] at fin
        refine ⟨_, rfl, .int (i : Int), rfl, _, _, rfl, rfl, .int 0, rfl, _, _, rfl, rfl, cmulR (by decide) (by decide), _, _, rfl, rfl, .inl ⟨_, rfl, _, _, rfl, rfl, by decide, fun m _ _ em => ?_⟩⟩
        rw [em]
        exact fin
      · have e2 := sg_f q10 e
        have hn : num c = (c : Int) - 31 := by rw [num, if_neg e2]
        have n0 := num_lo hct
        have n1 := num_hi hct
        rw [hn] at fin n0 n1
        refine ⟨.str z, rfl, .int (i : Int), rfl, z, _, c, rfl, rfl, hl, atI_nat ec, ⟨#[c]⟩, rfl, rfl, _, _, rfl, rfl, ?_⟩
        refine ⟨_, rfl, .int (i : Int), rfl, _, _, rfl, rfl, .int ((c : Int) - 31), rfl, _, _, rfl, rfl, cmulR (by omega) (by omega), _, _, rfl, rfl, .inl ⟨_, rfl, _, _, rfl, rfl, by decide, fun m _ _ em => ?_⟩⟩
        rw [em]
        exact fin
    · rintro σ H1 ⟨y2, y3, rfl, s1⟩
      rw [List.take_of_length_le (by rw [cs_len]; exact Nat.le_refl _)]
      exact ⟨_, rfl, q H1 s1⟩
end
end Kb

namespace Kb
open PySem PySem.Spec PyProof.Rows L2
theorem un_none {l : List Nat} {i : Nat} (h : Un l none i) {d : PyData} (r : Rd (.one 0) l (some d) []) : False := by
  cases h with
  | @rest e i hi h =>
    have := (r.det h).2
    have := congrArg List.length this
    rw [List.length_drop] at this
    simp at this
    omega
  | bad hi h => cases (r.det h).1
theorem un_some {l : List Nat} {d : PyData} {i : Nat} (h : Un l (some d) i) : Rd (.one 0) l (some d) [] := by
  cases h with
  | ok h => exact h
theorem cut_to {z : Str} {n : Nat} (h : n ≤ (cs z).length) : cutS z none (some (n : Int)) = S ((cs z).take n) := by
  have hz := cs_len z
  unfold cutS
  rw [HT.sIx_none, show HT.sIx z.length z.length (some (n : Int)) = min n z.length from HT.sIx_nat _ _ _, Nat.min_eq_left (by omega)]
  show S (((cs z).drop 0).take (n - 0)) = _
  rw [List.drop_zero, Nat.sub_zero]
theorem wf_text {d : PyData} (h : Wf 30 d) : ∀ c ∈ cs (S (pk d)), textC c = true := fun c hc => by
  rw [cs_S] at hc
  unfold textC
  rw [pk_plain 30 d h c hc, Bool.or_true]
theorem sl_txt (l : List Nat) : S l ++ Str.ofString "#" ++ Str.ofString (toString (ck l)) = S (sl l) := by
  rw [q35s, show Str.ofString (toString (ck l)) = S (dg (ck l)) by rw [dg, S_cs], S_app, S_app]
  unfold sl
  rw [List.append_assoc]
  rfl
theorem sl_len (l : List Nat) : (sl l).length ≤ l.length + 6 := by
  unfold sl
  rw [List.length_append, List.length_cons]
  have := dg_len (ck_lo l) (ck_hi l)
  omega
section
variable {P : Program} {w : World} {K : PySem.W.Frag} {mg : Str → Option Value} {base : Heap}
/-! sealed -/
def spSealedP : Sp := fun vs H Q _ => ∃ (v : V) (d : PyData), vs = [v] ∧ Tg H v d ∧ Wf 30 d ∧ (pk d).length ≤ 100000 ∧ ∀ H', Same H H' → Q (.str (S (sl (pk d)))) H'
theorem ok_sealedP (T : Blt mg) (N : TxNo K mg) (cD : Cst mg "DEEPEST" (.int 30)) (cC : Cst mg "CHECKS" (.int 99991)) (dP_is_int : DnIsInt K mg) (dP_is_plain : DnIsPlain K mg) (dP_text_of : DnTextOf K mg) (dP_packed : DnPackedP K mg) (dP_is_text : DnIsText K mg) (dP_number_of : DnNumberOf K mg) (dP_check : DnCheckP K mg) (d : DnSealedP K mg) :
    FnOk P w K mg base CX0 34 d.f d.fd ["thing"] spSealedP := by
  have GP_packed : FnOk P w K mg base CX0 33 dP_packed.f dP_packed.fd ["thing"] spPackedP := ok_packedP T cD dP_is_int dP_is_plain dP_text_of dP_packed
  have GP_check : FnOk P w K mg base (L2.CX P w) 3 dP_check.f dP_check.fd ["text"] (spCheckP K N.C) := ok_checkP T N cC dP_is_plain dP_is_text dP_number_of dP_check
  refine d.F.ok scP_sealed (fun vs H Q E h => ?_) (fun cdv A outer s H vs Q E hr h => ?_)
  · obtain ⟨v, d, rfl, _⟩ := h
    rfl
  · obtain ⟨v, d, rfl, tv, wv, hl, q⟩ := h
    refine ⟨_, (pss_cons (ps_set (i := 1) scP_sealed.nd rfl (Or.inl rfl) (pe_call GP_packed (hr.mono (by omega)) (by rfl) dP_packed.g dP_packed.F.kp dP_packed.b .nil pass0 (pa_cons (pv 0) pa_nil)))
    (pss_one (ps_ret (pe_op op_add_str (pe_op op_add_str (pv 1) pe_str) (pe_callTy call_str_int (by rfl) T.n_str (by decide +kernel) (pa_cons (pe_call GP_check (hr.mono (by omega)) (by rfl) dP_check.g dP_check.F.kp dP_check.b .nil (passes_call takes0 (fun _ _ _ _ h => h)) (pa_cons (pv 1) pa_nil)) pa_nil)))))), ?_⟩
    refine ⟨v, rfl, v, d, rfl, tv, wv, hl, fun H1 s1 => ?_⟩
    refine ⟨_, rfl, _, _, rfl, rfl, ?_, _, rfl, _, rfl, .inl ⟨_, rfl, by rw [cs_S]; exact hl, wf_text wv, fun H2 s2 => ⟨_, rfl, ck_bits _, _, _, rfl, rfl, ?_, ?_⟩⟩⟩
    · rw [S_len, qhash1, sizeLine_eq]
      omega
    · rw [cs_S, q35s, S_app, S_len, sizeLine_eq, show (Str.ofString (toString (ck (pk d)))).length = (dg (ck (pk d))).length by rw [dg, cs_len], List.length_append]
      have := dg_len (ck_lo (pk d)) (ck_hi (pk d))
      simp only [List.length_cons, List.length_nil]
      omega
    · rw [cs_S, sl_txt]
      exact q H2 (s1.trans s2)
theorem ok_sealedL (T : Blt mg) (dpacked : DnPackedL K mg) (dcheck : DnCheckL K mg) (d : DnSealedL K mg) : FnOk P w K mg base CX0 33 d.f d.fd ["_law_thing_here"] spSealedP := by
  have Gpacked : FnOk P w K mg base CX0 32 dpacked.f dpacked.fd ["_law_thing_here"] (spPk 30) := ok_packedL T dpacked 30
  have Gcheck : FnOk P w K mg base CX0 1 dcheck.f dcheck.fd ["_law_text"] spCheckL := ok_checkL T dcheck
  refine d.F.ok scsealed (fun vs H Q E h => ?_) (fun cdv A outer s H vs Q E hr h => ?_)
  · obtain ⟨v, d, rfl, _⟩ := h
    rfl
  · obtain ⟨v, d, rfl, tv, wv, hl, q⟩ := h
    refine ⟨_, (pss_cons (ps_set (i := 1) scsealed.nd rfl (Or.inl rfl) (pe_call Gpacked (hr.mono (by omega)) (by rfl) dpacked.g dpacked.F.kp dpacked.b .nil pass0 (pa_cons (pv 0) pa_nil)))
    (pss_one (ps_ret (pe_op op_add_str (pe_op op_add_str (pv 1) pe_str) (pe_callTy call_str_int (by rfl) T.n_str (by decide +kernel) (pa_cons (pe_call Gcheck (hr.mono (by omega)) (by rfl) dcheck.g dcheck.F.kp dcheck.b .nil pass0 (pa_cons (pv 1) pa_nil)) pa_nil)))))), ?_⟩
    refine ⟨v, rfl, v, d, rfl, tv, wv, hl, fun H1 s1 => ?_⟩
    refine ⟨_, rfl, _, _, rfl, rfl, ?_, _, rfl, _, rfl, by rw [cs_S]; exact hl, wf_text wv, fun H2 s2 => ⟨_, rfl, ck_bits _, _, _, rfl, rfl, ?_, ?_⟩⟩
    · rw [S_len, qhash1, sizeLine_eq]
      omega
    · rw [cs_S, q35s, S_app, S_len, sizeLine_eq, show (Str.ofString (toString (ck (pk d)))).length = (dg (ck (pk d))).length by rw [dg, cs_len], List.length_append]
      have := dg_len (ck_lo (pk d)) (ck_hi (pk d))
      simp only [List.length_cons, List.length_nil]
      omega
    · rw [cs_S, sl_txt]
      exact q H2 (s1.trans s2)
/-! unsealed -/
def Told (l : List Nat) (H : Hp) (Q : VK) : Prop := (∀ H' t v d, Same H H' → Seal l d → H' t = some (.tup [v]) → Tg H' v d → Q (.ref t) H') ∧ (∀ H' t, Same H H' → (∀ d, ¬ Seal l d) → H' t = some (.tup []) → Q (.ref t) H')
def spUnsealed (K : PySem.W.Frag) : Sp := fun vs H Q _ => ∃ (v : V), vs = [v] ∧ ((∃ z : Str, v = .str z ∧ (cs z).length ≤ 100000 ∧ Told (cs z) H Q) ∨
  (∃ t, TyX K H v (.type t) ∧ kitB t "str" = some false ∧ ∀ H' t, Same H H' → H' t = some (.tup []) → Q (.ref t) H'))
theorem seal_cut {l r : List Nat} {d : PyData} (hr : 35 ∉ r) (h : Seal (l ++ 35 :: r) d) : r = dg (ck l) ∧ Rd (.one 0) l (some d) [] := by
  obtain ⟨a, e, h⟩ := h
  obtain ⟨e1, e2⟩ := last35_one e hr (q35 a)
  subst e1
  exact ⟨e2, h⟩
theorem ok_unsealed (T : Blt mg) (N : TxNo K mg) (B : TxBad K mg) (cD : Cst mg "DEEPEST" (.int 30)) (cM : Cst mg "MOST_DIGITS" (.int 30)) (cC : Cst mg "CHECKS" (.int 99991)) (dP_quoted : DnQuoted K mg) (dP_written : DnWritten K mg) (dP_single : DnSingle K mg) (dP_left : DnLeft K mg) (dP_entered : DnEntered K mg)
    (dP_unpacked : DnUnpackedP K mg) (dP_is_plain : DnIsPlain K mg) (dP_is_text : DnIsText K mg) (dP_number_of : DnNumberOf K mg) (dP_check : DnCheckP K mg) (d : DnUnsealedP K mg) : FnOk P w K mg base CX0 6 d.f d.fd ["text"] (spUnsealed K) := by
  have GP_unpacked : FnOk P w K mg base (L2.CX P w) 5 dP_unpacked.f dP_unpacked.fd ["text"] (spUnpackedP K B.C) := ok_unpackedP T cD cM B dP_quoted dP_written dP_single dP_left dP_entered dP_unpacked
  have GP_check : FnOk P w K mg base (L2.CX P w) 3 dP_check.f dP_check.fd ["text"] (spCheckP K N.C) := ok_checkP T N cC dP_is_plain dP_is_text dP_number_of dP_check
  refine d.F.ok scP_unsealed (fun vs H Q E h => ?_) (fun cdv A outer s H vs Q E hr h => ?_)
  · obtain ⟨v, rfl, _⟩ := h
    rfl
  · obtain ⟨v, rfl, h⟩ := h
    refine ⟨_, (pss_cons (ps_if (pt_not (pt_val (pe_callB call_isi (by rfl) T.n_isinstance (by decide +kernel) (pa_cons (pv 0) (pa_cons (pe_bltn (v := .ty "str") (by rfl) T.n_str (by decide +kernel) rfl) pa_nil)))))
      (pss_one (ps_ret (pe_tup pa_nil)))
      pss_nil)
    (pss_cons (ps_asg (pe_m1 PySem.F.slot_str_rpartition PySem.F.type_str_rpartition mt_rpart (pv 0) pe_str) (pg_tup (by rfl) (pgs_cons (pg_name (i := 1) scP_unsealed.nd rfl (Or.inl rfl)) (pgs_cons (pg_name (i := 2) scP_unsealed.nd rfl (Or.inl rfl)) (pgs_cons (pg_name (i := 3) scP_unsealed.nd rfl (Or.inl rfl)) pgs_nil)))))
    (pss_cons (ps_try_only (tb := fun W => tAsg (tCallS (spUnpackedP K B.C) (WE W) (tCons (tVar 1) tNil)) (gName 4)) (ts := fun _ _ _ => tRet (tTup tNil)) (Wout := fun _ _ _ _ => False) rfl rfl ⟨rfl, by decide, Or.inl B.gC⟩ takes0
      (fun W pn xe tk _ => pss_one (ps_set (i := 4) scP_unsealed.nd rfl (Or.inl rfl) (by exact (pe_callS GP_unpacked (hr.mono (by omega)) rfl dP_unpacked.g dP_unpacked.F.kp dP_unpacked.b (fun σ => passAt tk σ) (by exact (pa_cons (pv 1) pa_nil))))))
      (fun a oe cls d pn hz hf => pss_one (ps_ret (by exact (pe_tup (by exact pa_nil))))))
    (pss_one (ps_ret (pe_ifExp (pt_cmpR op_eq (pv 3) (pe_callTy call_str_int (by rfl) T.n_str (by decide +kernel) (pa_cons (pe_call GP_check (hr.mono (by omega)) (by rfl) dP_check.g dP_check.F.kp dP_check.b .nil (passes_call takes0 (fun _ _ _ _ h => h)) (pa_cons (pv 1) pa_nil)) pa_nil)) (nomark _)) (pe_tup (pa_cons (pv 4) pa_nil)) (pe_tup pa_nil))))))), ?_⟩
    rcases h with ⟨z, rfl, hz, q, qn⟩ | ⟨t, ty, k, qn⟩
    · have hlz := cs_len z
      have hl : z.length ≤ sizeLine := by rw [sizeLine_eq, ← cs_len]; omega
      refine ⟨.str z, rfl, .str z, _, _, _, true, rfl, .ty "str", .base (.str z), kit_ty (by decide +kernel), true, rfl, iteF ?_⟩
      refine ⟨.str z, rfl, ⟨z, rfl⟩, z, rfl, rfl, hl, fun h35 T nT => ?_, fun l r e hr T nT => ?_⟩
      · have s1 : Same H (upd H T (.tup [.str (S []), .str (S []), .str z])) := same_upd nT
        refine ⟨T, _, rfl, .inl (.inl upd_same), rfl, .str (S []), _, rfl, .str (S []), _, rfl, .str z, _, rfl, rfl, ?_⟩
        refine ⟨.str (S []), rfl, .str (S []), rfl, .inl ⟨S [], rfl, by rw [cs_S]; exact Nat.zero_le _, fun H' d u s' un tu => ?_, fun H' d i hb un => ?_⟩⟩
        · rw [cs_S] at un
          have := (un_some un).lt (by simp)
          cases this
        · refine ⟨true, B.te, fun _ a0 _ => ?_, fun z => Bool.noConfusion z⟩
          refine ⟨Nat.zero_le _, fun p np => qn _ p ((s1.trans hb.1).trans (same_upd np)) (fun d hd => ?_) upd_same⟩
          obtain ⟨a, e, _⟩ := hd
          exact h35 (by rw [e]; unfold sl; simp)
      · have s1 : Same H (upd H T (.tup [.str (S l), .str (S [35]), .str (S r)])) := same_upd nT
        have hln : l.length ≤ (cs z).length := by
          rw [e, List.length_append]
          omega
        refine ⟨T, _, rfl, .inl (.inl upd_same), rfl, .str (S l), _, rfl, .str (S [35]), _, rfl, .str (S r), _, rfl, rfl, ?_⟩
        refine ⟨.str (S l), rfl, .str (S l), rfl, .inl ⟨S l, rfl, by rw [cs_S]; omega, fun H2 d u s2 un tu => ?_, fun H2 d i hb un => ?_⟩⟩
        · rw [cs_S] at un
          have hrd := un_some un
          obtain ⟨el, wd⟩ := canon hrd
          have htx : ∀ c ∈ cs (S l), textC c = true := by
            rw [el]
            exact wf_text wd
          refine ⟨.str (S r), rfl, .str (S l), rfl, .str (S l), rfl, .inl ⟨S l, rfl, by rw [cs_S]; omega, htx, fun H3 s3 => ⟨_, rfl, ck_bits _, rfl, _, rfl, ?_⟩⟩⟩
          have s13 := (s1.trans s2).trans s3
          rw [cs_S, show Str.ofString (toString (ck l)) = S (dg (ck l)) by rw [dg, S_cs]]
          refine ite2 (fun eq => ?_) (fun ne => ?_)
          · have er : r = dg (ck l) := S_inj (by injection of_decide_eq_true eq)
            refine ⟨u, rfl, (by decide : 1 ≤ sizeLine), fun p np => ?_⟩
            exact q _ p u d (s13.trans (same_upd np)) ⟨l, by rw [e, er]; rfl, hrd⟩ upd_same ((tu.same s3).new np)
          · refine ⟨Nat.zero_le _, fun p np => qn _ p (s13.trans (same_upd np)) (fun d hd => ?_) upd_same⟩
            rw [e] at hd
            exact ne (decide_eq_true (by rw [(seal_cut hr hd).1]))
        · refine ⟨true, B.te, fun _ a0 _ => ?_, fun z => Bool.noConfusion z⟩
          refine ⟨Nat.zero_le _, fun p np => qn _ p ((s1.trans hb.1).trans (same_upd np)) (fun d hd => ?_) upd_same⟩
          rw [e] at hd
          rw [cs_S] at un
          exact un_none un (seal_cut hr hd).2
    · exact ⟨v, rfl, v, _, _, _, false, rfl, .ty "str", ty, kit_ty k, false, rfl, iteT ⟨Nat.zero_le _, fun p np => qn _ p (same_upd np) upd_same⟩⟩
/-! _law_due -/
def spDue : Sp := fun vs H Q _ => ∃ (z : Str), vs = [.str z] ∧ (cs z).length ≤ 100000 ∧ Told (cs z) H Q
theorem ok_due (T : Blt mg) (dread_string : DnReadString K mg) (dread_integer : DnReadInteger K mg) (dread_tuple : DnReadTuple K mg) (dfirst_wrong : DnFirstWrong K mg) (dunpacked : DnUnpackedL K mg) (dpacked : DnPackedL K mg) (dcheck : DnCheckL K mg) (dsealed : DnSealedL K mg) (d : DnDue K mg) :
    FnOk P w K mg base CX0 64 d.f d.fd ["_law_text"] spDue := by
  have Gunpacked : FnOk P w K mg base CX0 63 dunpacked.f dunpacked.fd ["_law_text"] spUnpackedL := ok_unpackedL T dread_string dread_integer dread_tuple dfirst_wrong dunpacked
  have Gsealed : FnOk P w K mg base CX0 33 dsealed.f dsealed.fd ["_law_thing_here"] spSealedP := ok_sealedL T dpacked dcheck dsealed
  refine d.F.ok scdue (fun vs H Q E h => ?_) (fun cdv A outer s H vs Q E hr h => ?_)
  · obtain ⟨z, rfl, _⟩ := h
    rfl
  · obtain ⟨z, rfl, hz, q, qn⟩ := h
    have hlz := cs_len z
    have hl : z.length ≤ sizeLine := by rw [sizeLine_eq, ← cs_len]; omega
    refine ⟨_, (pss_cons (ps_if (PW.pt (pw_or (pt_not (pt_val (pe_callB call_isi (by rfl) T.n_isinstance (by decide +kernel) (pa_cons (pv 0) (pa_cons (pe_bltn (v := .ty "str") (by rfl) T.n_str (by decide +kernel) rfl) pa_nil))))) (pw_or1 (pt_cmpR op_notIn_sign pe_str (pv 0) rfl))))
      (pss_one (ps_ret (pe_tup pa_nil)))
      pss_nil)
    (pss_cons (ps_set (i := 1) scdue.nd rfl (Or.inl rfl) (pe_op op_sub (pe_op op_sub (pe_callB call_len_str (by rfl) T.n_len (by decide +kernel) (pa_cons (pv 0) pa_nil)) pe_int) (pe_m1 PySem.F.slot_str_index PySem.F.type_str_index mt_sindex (pe_revS (pv 0)) pe_str)))
    (pss_cons (ps_set (i := 2) scdue.nd rfl (Or.inl rfl) (pe_call Gunpacked (hr.mono (by omega)) (by rfl) dunpacked.g dunpacked.F.kp dunpacked.b .nil pass0 (pa_cons (pe_slice sl_str (pv 0) po_none (po_some (pv 1))) pa_nil)))
    (pss_cons (ps_if (PW.pt (pw_and (pt_cmpR op_eq (pe_ix ix_tup (pv 2) pe_int (fun _ _ => rfl)) pe_str (nomark _)) (pw_and1 (pt_cmpR op_eq (pe_call Gsealed (hr.mono (by omega)) (by rfl) dsealed.g dsealed.F.kp dsealed.b .nil pass0 (pa_cons (pe_ix ix_tup (pv 2) pe_int (fun _ _ => rfl)) pa_nil)) (pv 0) (nomark _)))))
      (pss_one (ps_ret (pe_tup (pa_cons (pe_ix ix_tup (pv 2) pe_int (fun _ _ => rfl)) pa_nil))))
      pss_nil)
    (pss_one (ps_ret (pe_tup pa_nil))))))), ?_⟩
    refine ⟨.str z, rfl, .str z, _, _, _, true, rfl, .ty "str", .base (.str z), kit_ty (by decide +kernel), true, rfl, iteF ?_⟩
    refine ⟨.str z, rfl, 35, z, congrArg V.str q35s, rfl, _, rfl, ite2 (fun e => ?_) (fun e => ?_)⟩
    · have h35 : 35 ∉ cs z := fun h => by
        have h : 35 ∈ z.cps.toList := h
        rw [decide_eq_true h] at e
        cases e
      refine ⟨Nat.zero_le _, fun p np => qn _ p (same_upd np) (fun d hd => ?_) upd_same⟩
      obtain ⟨a, e, _⟩ := hd
      exact h35 (by rw [e]; unfold sl; simp)
    · have h35 : 35 ∈ cs z := by
        cases h : decide (35 ∈ z.cps.toList) with
        | true => exact of_decide_eq_true h
        | false => exact absurd (by rw [h]; rfl) e
      obtain ⟨l, r, ez, hr35⟩ := last35 _ h35
      have hn : (cs z).length = l.length + (r.length + 1) := by rw [ez, List.length_append]; rfl
      obtain ⟨rest, hocc⟩ := first_some (x := S (cs z).reverse) (l := r.reverse) (r := l.reverse) (by rw [cs_S, ez]; simp) (by simpa using hr35)
      refine ⟨.str z, rfl, _, rfl, hl, _, _, rfl, rfl, .str z, rfl, z, rfl, hl, ⟨_, rfl⟩, _, _, _, rest, rfl, rfl, hocc, _, _, rfl, rfl, ?_⟩
      have hat : (z.length : Int) - 1 - (r.reverse.length : Int) = (l.length : Int) := by
        rw [List.length_reverse]
        omega
      have hcut : cutS z none (some ((z.length : Int) - 1 - (r.reverse.length : Int))) = S l := by
        rw [hat, cut_to (by omega), ez]
        simp
      refine ⟨.str z, rfl, _, rfl, _, rfl, z, rfl, hl, S l, ?_, by rw [cs_S]; omega, fun H2 t o i v s2 un et hv => ?_⟩
      · exact congrArg (fun x => [V.str x]) hcut
      · rw [cs_S] at un
        cases o with
        | none =>
          refine ⟨.ref t, rfl, t, _, 0, _, rfl, rfl, .inl (.inl et), atI_nat (j := 0) rfl, rfl, _, rfl, ite2 (fun e => ?_) (fun _ => iteF ?_)⟩
          · exact absurd e (by decide +kernel)
          · refine ⟨Nat.zero_le _, fun p np => qn _ p (s2.trans (same_upd np)) (fun d hd => ?_) upd_same⟩
            rw [ez] at hd
            exact un_none un (seal_cut hr35 hd).2
        | some d =>
          have hrd := un_some un
          obtain ⟨el, wd⟩ := canon hrd
          refine ⟨.ref t, rfl, t, _, 0, _, rfl, rfl, .inl (.inl et), atI_nat (j := 0) rfl, rfl, _, rfl, ite2 (fun _ => ?_) (fun e => ?_)⟩
          · refine ⟨.ref t, rfl, t, _, 1, _, rfl, rfl, .inl (.inl et), atI_nat (j := 1) rfl, v, d, rfl, hv, wd, by rw [← el]; omega, fun H3 s3 => ?_⟩
            have s23 := s2.trans s3
            refine ⟨.str z, rfl, rfl, _, rfl, ite2 (fun e => ?_) (fun e => ?_)⟩
            · have e2 : S (sl (pk d)) = z := by injection of_decide_eq_true e
              refine ⟨.ref t, rfl, t, _, 1, _, rfl, rfl, .inl (.inl (s3 _ _ et)), atI_nat (j := 1) rfl, (by decide : 1 ≤ sizeLine), fun p np => ?_⟩
              exact q _ p v d (s23.trans (same_upd np)) ⟨l, by rw [← e2, cs_S, el], hrd⟩ upd_same ((hv.same s3).new np)
            · refine ⟨Nat.zero_le _, fun p np => qn _ p (s23.trans (same_upd np)) (fun d2 hd => ?_) upd_same⟩
              rw [ez] at hd
              have er := (seal_cut hr35 hd).1
              refine e (decide_eq_true ?_)
              congr 1
              apply cs_inj
              rw [cs_S, ez, er, ← el]
              rfl
          · exact absurd (by decide +kernel) e
end
end Kb

namespace Kb
open PySem PySem.Spec PyProof.Rows L2
abbrev schanged : Stmt := topS 40
abbrev Nchanged : List Str := ["_law_hand_here", "_law_text", "_law_at", "_law_sign", "_law_things"]
theorem scchanged : FnScope ["_law_hand_here", "_law_text", "_law_at", "_law_sign", "_law_things"] ["_law_hand_here", "_law_text"] (defScope schanged) := ⟨rfl, rfl, rfl, by decide +kernel, rfl, by decide +kernel, by decide +kernel⟩
abbrev sdeep : Stmt := topS 41
abbrev Ndeep : List Str := ["_law_hand_here", "_law_found", "_law_turn"]
theorem scdeep : FnScope ["_law_hand_here", "_law_found", "_law_turn"] ["_law_hand_here"] (defScope sdeep) := ⟨rfl, rfl, rfl, by decide +kernel, rfl, by decide +kernel, by decide +kernel⟩
abbrev sis_none : Stmt := topS 43
abbrev Nis_none : List Str := ["_law_thing_here", "_law_told", "e"]
theorem scis_none : FnScope ["_law_thing_here", "_law_told", "e"] ["_law_thing_here"] (defScope sis_none) := ⟨rfl, rfl, rfl, by decide +kernel, rfl, by decide +kernel, by decide +kernel⟩
/-! texts that are short enough -/
def Tx (n : Nat) (y : Str) : Prop := (cs y).length ≤ n ∧ ∀ c ∈ cs y, textC c = true
theorem Tx.app {m n : Nat} {x y : Str} (hx : Tx m x) (hy : Tx n y) : Tx (m + n) (x ++ y) := by
  refine ⟨?_, fun c hc => ?_⟩
  · rw [cs_app, List.length_append]
    exact Nat.add_le_add hx.1 hy.1
  · rw [cs_app] at hc
    rcases List.mem_append.mp hc with hc | hc
    · exact hx.2 c hc
    · exact hy.2 c hc
theorem Tx.cut {n : Nat} {x : Str} (hx : Tx n x) (a b : Option Int) : Tx n (cutS x a b) := by
  have e : ∃ i j, cutS x a b = S (((cs x).drop i).take j) := ⟨_, _, rfl⟩
  obtain ⟨i, j, e⟩ := e
  rw [e]
  refine ⟨?_, fun c hc => ?_⟩
  · rw [cs_S, List.length_take, List.length_drop]
    have := hx.1
    omega
  · rw [cs_S] at hc
    exact hx.2 c (List.mem_of_mem_drop (List.mem_of_mem_take hc))
theorem Tx.rev {n : Nat} {x : Str} (hx : Tx n x) : Tx n (S (cs x).reverse) := by
  refine ⟨?_, fun c hc => ?_⟩
  · rw [cs_S, List.length_reverse]
    exact hx.1
  · rw [cs_S] at hc
    exact hx.2 c (List.mem_reverse.mp hc)
theorem Tx.mono {m n : Nat} {x : Str} (hx : Tx m x) (h : m ≤ n) : Tx n x := ⟨Nat.le_trans hx.1 h, hx.2⟩
theorem Tx.one {c : Nat} (h : textC c = true) : Tx 1 (S [c]) := ⟨by rw [cs_S]; exact Nat.le_refl _, fun x hx => by
  rw [cs_S] at hx
  rw [List.mem_singleton.mp hx]
  exact h⟩
theorem Tx.size {n : Nat} {x : Str} (hx : Tx n x) (h : n ≤ 1000000) : x.length ≤ sizeLine := by
  have := hx.1
  rw [← cs_len, sizeLine_eq]
  omega
theorem Tx.size2 {m n : Nat} {x y : Str} (hx : Tx m x) (hy : Tx n y) (h : m + n ≤ 1000000) : x.length + y.length ≤ sizeLine := by
  have h1 := hx.1
  have h2 := hy.1
  rw [← cs_len, ← cs_len, sizeLine_eq]
  omega
theorem all_text {z : Str} (h : (cs z).all textC = true) : ∀ c ∈ cs z, textC c = true := fun c hc => List.all_eq_true.mp h c hc
/-! values that are no strings -/
def NoS (a : Addr) (H : Hp) (v : V) : Prop := v = .non ∨ (∃ i, v = .int i) ∨ (∃ b, v = .bl b) ∨ ∃ p o, v = .ref p ∧ p ≠ a ∧ H p = some o ∧ ((∃ xs, o = .lst xs) ∨ (∃ xs, o = .tup xs) ∨ ∃ k, o = .dK k)
theorem NoS.ext {a : Addr} {H H' : Hp} {v : V} (h : NoS a H v) (x : Ext a H H') : NoS a H' v := by
  rcases h with h | h | h | ⟨p, o, e, n, eo, h⟩
  · exact .inl h
  · exact .inr (.inl h)
  · exact .inr (.inr (.inl h))
  · exact .inr (.inr (.inr ⟨p, o, e, n, x p o n eo, h⟩))
theorem NoS.ty {K : PySem.W.Frag} {a : Addr} {H : Hp} {v : V} (h : NoS a H v) : ∃ t, TyX K H v (.type t) ∧ kitB t "str" = some false := by
  rcases h with rfl | ⟨i, rfl⟩ | ⟨b, rfl⟩ | ⟨p, o, rfl, n, eo, ⟨xs, rfl⟩ | ⟨xs, rfl⟩ | ⟨k, rfl⟩⟩
  · exact ⟨"NoneType", .base .non, by decide +kernel⟩
  · exact ⟨"int", .base (.int i), by decide +kernel⟩
  · exact ⟨"bool", .base (.bl b), by decide +kernel⟩
  · exact ⟨"list", .base (.lst eo), by decide +kernel⟩
  · exact ⟨"tuple", .base (.tup eo), by decide +kernel⟩
  · exact ⟨"dict", .base (.dK eo), by decide +kernel⟩
/-- isinstance(e, c) of a caught error -/
theorem call_isErr {X : Cx} {a D : Addr} {oe : Obj} {cls : Value} {d : Option Addr} {pn : List (Addr × Obj)} (isC : ExcC X.K D) (hz : Zc cls d oe) (hf : ∃ vs, oe.data = .fields vs) :
    CallR (X.suite a ((a, oe) :: pn)) (.builtin "isinstance") (fun xs H Q => cls = .ref D ∧ d = none ∧ rIsE X.K D a xs H Q) := by
  intro pins s σ H xs us Q I r h
  obtain ⟨ec, ed, h⟩ := h
  subst ec ed
  exact call_isE isC hz hf pins s σ H xs us Q I r h
structure TxIs (K : PySem.W.Frag) (mg : Str → Option Value) (C : Addr) where
  isC : ExcC K C
  KE : Addr
  gKE : mg "KnownError" = some (.ref KE)
  kit : PySem.W.kitOne K (.ref C) (.ref KE) = some true
section
variable {P : Program} {w : World} {K : PySem.W.Frag} {mg : Str → Option Value} {base : Heap}
abbrev DnChanged (K : PySem.W.Frag) (mg : Str → Option Value) := Dn K mg "_law_changed" schanged ["_law_hand_here", "_law_text"]
abbrev DnDeep (K : PySem.W.Frag) (mg : Str → Option Value) := Dn K mg "_law_deep" sdeep ["_law_hand_here"]
abbrev DnIsNone (K : PySem.W.Frag) (mg : Str → Option Value) := Dn K mg "_law_is_none" sis_none ["_law_thing_here"]
/-! _law_changed -/
def spChanged : Sp := fun vs H Q _ => ∃ (a c : Addr) (z : Str), vs = [.ref a, .str z] ∧ Hand c H a ∧ Tx 2000 z ∧ ∀ H' y, Tx 10000 y → Ext a H H' → Hand c H' a → Q (.str y) H'
theorem ok_changed (T : Blt mg) (ddraw : DnDraw K mg) (dany : DnAny K mg) (d : DnChanged K mg) : FnOk P w K mg base CX0 3 d.f d.fd ["_law_hand_here", "_law_text"] spChanged := by
  have Gdraw : FnOk P w K mg base CX0 1 ddraw.f ddraw.fd ["_law_hand_here", "_law_many"] spDraw := ok_draw T ddraw
  have Gany : FnOk P w K mg base CX0 2 dany.f dany.fd ["_law_hand_here", "_law_things"] spAny := ok_any T ddraw dany
  refine d.F.ok scchanged (fun vs H Q E h => ?_) (fun cdv A outer s H vs Q E hr h => ?_)
  · obtain ⟨a, c, z, rfl, _⟩ := h
    rfl
  · obtain ⟨a, c, z, rfl, hd, hz, q⟩ := h
    have hlz := cs_len z
    have hl : z.length ≤ sizeLine := hz.size (by decide)
    have hz0 := hz.1
    refine ⟨_, (pss_cons (ps_set (i := 2) scchanged.nd rfl (Or.inl rfl) (pe_call Gdraw (hr.mono (by omega)) (by rfl) ddraw.g ddraw.F.kp ddraw.b .nil pass0 (pa_cons (pv 0) (pa_cons (pe_op op_add (pe_callB call_len_str (by rfl) T.n_len (by decide +kernel) (pa_cons (pv 1) pa_nil)) pe_int) pa_nil))))
    (pss_cons (ps_set (i := 3) scchanged.nd rfl (Or.inl rfl) (pe_call Gany (hr.mono (by omega)) (by rfl) dany.g dany.F.kp dany.b .nil pass0 (pa_cons (pv 0) (pa_cons pe_str pa_nil))))
    (pss_cons (ps_set (i := 4) scchanged.nd rfl (Or.inl rfl) (pe_lst (pa_cons (pe_op op_add_str (pe_op op_add_str (pe_slice sl_str (pv 1) po_none (po_some (pv 2))) (pv 3)) (pe_slice sl_str (pv 1) (po_some (pv 2)) po_none)) (pa_cons (pe_op op_add_str (pe_slice sl_str (pv 1) po_none (po_some (pv 2))) (pe_slice sl_str (pv 1) (po_some (pe_op op_add (pv 2) pe_int)) po_none)) (pa_cons (pe_op op_add_str (pe_op op_add_str (pe_slice sl_str (pv 1) po_none (po_some (pv 2))) (pv 3)) (pe_slice sl_str (pv 1) (po_some (pe_op op_add (pv 2) pe_int)) po_none)) (pa_cons (pe_slice sl_str (pv 1) po_none (po_some (pv 2))) pa_nil))))))
    (pss_cons (ps_expr (pe_bm PySem.F.plainAttrs_list PySem.F.slot_list_extend PySem.F.type_list_extend mt_extend (pv 4) (pa_cons (pe_lst (pa_cons (pe_op op_add_str (pe_op op_add_str (pe_slice sl_str (pv 1) po_none (po_some (pv 2))) (pe_revS (pe_slice sl_str (pv 1) (po_some (pv 2)) (po_some (pe_op op_add (pv 2) pe_int))))) (pe_slice sl_str (pv 1) (po_some (pe_op op_add (pv 2) pe_int)) po_none)) (pa_cons (pe_op op_add_str (pv 1) (pv 3)) (pa_cons (pe_op op_add_str (pv 1) (pv 1)) (pa_cons (pe_slice sl_str (pv 1) (po_some (pv 2)) po_none) pa_nil))))) pa_nil)))
    (pss_one (ps_ret (pe_call Gany (hr.mono (by omega)) (by rfl) dany.g dany.F.kp dany.b .nil pass0 (pa_cons (pv 0) (pa_cons (pv 4) pa_nil))))))))), ?_⟩
    refine ⟨.ref a, rfl, .str z, rfl, _, rfl, hl, _, _, rfl, rfl, a, c, _, rfl, hd, by omega, by omega, fun H1 r ex1 hd1 r0 r1 => ?_⟩
    refine ⟨.ref a, rfl, a, c, _, rfl, hd1, .inr ⟨_, rfl, by decide +kernel, by decide +kernel, fun H2 g hg ex2 hd2 => ?_⟩⟩
    have hgt : Tx 1 (S [g]) := Tx.one (all_text (by decide +kernel) g hg)
    refine ⟨.str z, rfl, .int r, rfl, r, rfl, z, rfl, hl, .str (S [g]), rfl, _, _, rfl, rfl, ?_, .str z, rfl, .int r, rfl, r, rfl, z, rfl, hl, _, _, rfl, rfl, ?_, .str z, rfl, .int r, rfl, r, rfl, z, rfl, hl, .str z, rfl, .int r, rfl, _, _, rfl, rfl, _, rfl, z, rfl, hl, _, _, rfl, rfl, ?_, .str z, rfl, .int r, rfl, r, rfl, z, rfl, hl, .str (S [g]), rfl, _, _, rfl, rfl, ?_, .str z, rfl, .int r, rfl, _, _, rfl, rfl, _, rfl, z, rfl, hl, _, _, rfl, rfl, ?_, .str z, rfl, .int r, rfl, r, rfl, z, rfl, hl, (by decide : 4 ≤ sizeLine), fun p np => ?_⟩
    · exact (hz.cut _ _).size2 hgt (by decide)
    · exact ((hz.cut _ _).app hgt).size2 (hz.cut _ _) (by decide)
    · exact (hz.cut _ _).size2 (hz.cut _ _) (by decide)
    · exact (hz.cut _ _).size2 hgt (by decide)
    · exact ((hz.cut _ _).app hgt).size2 (hz.cut _ _) (by decide)
    refine ⟨.ref p, rfl, .inl ⟨rfl, _, sql upd_same⟩, .str z, rfl, .int r, rfl, r, rfl, z, rfl, hl, .str z, rfl, .int r, rfl, r, rfl, .int r, rfl, _, _, rfl, rfl, _, rfl, z, rfl, hl, _, rfl, ?_, _, _, rfl, rfl, ?_, .str z, rfl, .int r, rfl, _, _, rfl, rfl, _, rfl, z, rfl, hl, _, _, rfl, rfl, ?_, .str z, rfl, .str (S [g]), rfl, _, _, rfl, rfl, ?_, .str z, rfl, .str z, rfl, _, _, rfl, rfl, ?_, .str z, rfl, .int r, rfl, r, rfl, z, rfl, hl, (by decide : 4 ≤ sizeLine), fun p2 np2 => ?_⟩
    · exact (hz.cut _ _).size (by decide)
    · exact (hz.cut _ _).size2 (hz.cut _ _).rev (by decide)
    · exact ((hz.cut _ _).app (hz.cut _ _).rev).size2 (hz.cut _ _) (by decide)
    · exact hz.size2 hgt (by decide)
    · exact hz.size2 hz (by decide)
    have hp2 : p ≠ p2 := ne_of_none upd_same np2
    refine ⟨p, p2, _, _, rfl, rfl, same_upd np2 _ _ upd_same, upd_same, (by decide : 4 + 4 ≤ sizeLine), ?_⟩
    have hp : p ≠ a := hd2.ne np
    refine ⟨.ref a, rfl, .ref p, rfl, a, c, _, rfl, ((hd2.new np).new np2).put hd2 np, .inl ⟨p, _, rfl, hp, upd_same, (show 0 < 8 by decide), (show 8 ≤ 1000 by decide), fun H5 v hv ex5 hd5 => ?_⟩⟩
    have ext : Ext a H H5 := (ex1.trans ex2).trans ((((Ext.refl a H2).new np).new np2 |>.put np).trans ex5)
    have all : ∃ y, v = .str y ∧ Tx 10000 y := by
      simp only [List.mem_append, List.mem_cons, List.not_mem_nil, or_false] at hv
      rcases hv with (e | e | e | e) | (e | e | e | e)
      · exact ⟨_, e, (((hz.cut _ _).app hgt).app (hz.cut _ _)).mono (by decide)⟩
      · exact ⟨_, e, ((hz.cut _ _).app (hz.cut _ _)).mono (by decide)⟩
      · exact ⟨_, e, (((hz.cut _ _).app hgt).app (hz.cut _ _)).mono (by decide)⟩
      · exact ⟨_, e, (hz.cut _ _).mono (by decide)⟩
      · exact ⟨_, e, (((hz.cut _ _).app (hz.cut _ _).rev).app (hz.cut _ _)).mono (by decide)⟩
      · exact ⟨_, e, (hz.app hgt).mono (by decide)⟩
      · exact ⟨_, e, (hz.app hz).mono (by decide)⟩
      · exact ⟨_, e, (hz.cut _ _).mono (by decide)⟩
    obtain ⟨y, rfl, hy⟩ := all
    exact q H5 y hy ext hd5
/-! _law_deep -/
def spDeep : Sp := fun vs H Q _ => ∃ (a c : Addr), vs = [.ref a] ∧ Hand c H a ∧ ∀ H' v, NoS a H' v → Ext a H H' → Hand c H' a → Q v H'
theorem ok_deep (T : Blt mg) (ddraw : DnDraw K mg) (d : DnDeep K mg) : FnOk P w K mg base CX0 2 d.f d.fd ["_law_hand_here"] spDeep := by
  have Gdraw : FnOk P w K mg base CX0 1 ddraw.f ddraw.fd ["_law_hand_here", "_law_many"] spDraw := ok_draw T ddraw
  refine d.F.ok scdeep (fun vs H Q E h => ?_) (fun cdv A outer s H vs Q E hr h => ?_)
  · obtain ⟨a, c, rfl, _⟩ := h
    rfl
  · obtain ⟨a, c, rfl, hd, q⟩ := h
    refine ⟨_, (C8.pss_cut (ps_set (i := 1) scdeep.nd rfl (Or.inl rfl) (pe_ix ix_list (pe_lst (pa_cons pe_non (pa_cons (pe_tup pa_nil) (pa_cons pe_int pa_nil)))) (pe_call Gdraw (hr.mono (by omega)) (by rfl) ddraw.g ddraw.F.kp ddraw.b .nil pass0 (pa_cons (pv 0) (pa_cons pe_int pa_nil))) (fun _ _ => rfl)))
    (pss_cons (ps_for PassesOwn.never rfl (pi_range1 (by rfl) T.n_range (pa_cons (pe_op op_add pe_int (pe_call Gdraw (hr.mono (by omega)) (by rfl) ddraw.g ddraw.F.kp ddraw.b .nil pass0 (pa_cons (pv 0) (pa_cons pe_int pa_nil)))) pa_nil)) (pg_name (i := 2) scdeep.nd rfl (Or.inl rfl))
      (pss_one (ps_set (i := 1) scdeep.nd rfl (Or.inl rfl) (pe_ix ix_list (pe_lst (pa_cons (pe_lst (pa_cons (pv 1) pa_nil)) (pa_cons (pe_tup (pa_cons (pv 1) pa_nil)) (pa_cons (pe_disp (pps_cons pe_int (pv 1) pps_nil) rfl rfl (by simp) (by decide)) pa_nil)))) (pe_call Gdraw (hr.mono (by omega)) (by rfl) ddraw.g ddraw.F.kp ddraw.b .nil pass0 (pa_cons (pv 0) (pa_cons pe_int pa_nil))) (fun _ _ => rfl)))))
    (pss_one (ps_ret (pv 1))))), ?_⟩
    refine ⟨fun σ H1 => ∃ v, σ = [some (.ref a), some v, none] ∧ NoS a H1 v ∧ Ext a H H1 ∧ Hand c H1 a, ?_, ?_⟩
    · refine ⟨Nat.zero_le _, fun t nt => ⟨(by decide : 3 ≤ sizeLine), fun p np => ?_⟩⟩
      have hta : t ≠ a := hd.ne nt
      have hd1 := hd.new (o := .tup []) nt
      have hpa : p ≠ a := hd1.ne np
      refine ⟨.ref a, rfl, a, c, _, rfl, hd1.new np, by decide, by decide, fun H1 r ex1 hd2 r0 r1 => ?_⟩
      obtain ⟨k, rfl⟩ := Int.eq_ofNat_of_zero_le r0
      have ex : Ext a H H1 := (((Ext.refl a H).new nt).new np).trans ex1
      have et : H1 t = some (.tup []) := ex1 _ _ hta (same_upd np _ _ upd_same)
      have ep := ex1 _ _ hpa upd_same
      have hk : k = 0 ∨ k = 1 ∨ k = 2 := by omega
      rcases hk with rfl | rfl | rfl
      · exact ⟨p, _, _, _, rfl, rfl, sql ep, atI_nat (j := 0) rfl, .non, rfl, .inl rfl, ex, hd2⟩
      · exact ⟨p, _, _, _, rfl, rfl, sql ep, atI_nat (j := 1) rfl, _, rfl, .inr (.inr (.inr ⟨t, _, rfl, hta, et, .inr (.inl ⟨_, rfl⟩)⟩)), ex, hd2⟩
      · exact ⟨p, _, _, _, rfl, rfl, sql ep, atI_nat (j := 2) rfl, _, rfl, .inr (.inl ⟨_, rfl⟩), ex, hd2⟩
    · rintro σ H1 ⟨v, rfl, hv, ex1, hd1⟩
      refine ⟨.ref a, rfl, a, c, _, rfl, hd1, by decide, by decide, fun H2 m ex2 hd2 m0 m1 => ?_⟩
      obtain ⟨m, rfl⟩ := Int.eq_ofNat_of_zero_le m0
      refine ⟨_, _, rfl, rfl, ((14 + m : Nat) : Int), ?_, by omega, by omega, for_range (lo := 0) (n := 14 + m) (fun i σ H' => ∃ v y, σ = [some (.ref a), some v, y] ∧ NoS a H' v ∧ Ext a H H' ∧ Hand c H' a) ⟨v, none, rfl, hv.ext ex2, ex1.trans ex2, hd2⟩ ?_ ?_⟩
      · show [V.int (14 + (m : Int))] = _
        rw [show (14 + (m : Int)) = ((14 + m : Nat) : Int) by omega]
      · rintro i σ H3 hi ⟨v, y, rfl, hv, ex3, hd3⟩
        refine ⟨v, rfl, (by decide : 1 ≤ sizeLine), fun l nl => ⟨v, rfl, (by decide : 1 ≤ sizeLine), fun t nt => fun dc nd => ⟨v, rfl, upd_same, [(.inl 0, v)], rfl, (by decide : 1 ≤ 15), (by decide : 3 ≤ sizeLine), fun p np => ?_⟩⟩⟩
        have n1 := hd3.new (o := .lst [v]) nl
        have n2 := n1.new (o := .tup [v]) nt
        have x2 : Ext a H3 (upd (upd H3 l (.lst [v])) t (.tup [v])) := ((Ext.refl a H3).new nl).new nt
        have el : (upd (upd H3 l (.lst [v])) t (.tup [v])) l = some (.lst [v]) := same_upd nt _ _ upd_same
        have et : (upd (upd H3 l (.lst [v])) t (.tup [v])) t = some (.tup [v]) := upd_same
        have hla : l ≠ a := hd3.ne nl
        have hta : t ≠ a := n1.ne nt
        generalize upd (upd H3 l (.lst [v])) t (.tup [v]) = G at *
        have hda : dc ≠ a := n2.ne nd
        have n3 := (n2.new (o := .dK []) nd).put (o := .dK (mergeK [] [(.inl 0, v)])) n2 nd
        have x3 : Ext a H3 (upd (upd G dc (.dK [])) dc (.dK (mergeK [] [(.inl 0, v)]))) := x2.trans (((Ext.refl a G).new nd).put nd)
        have g : ∀ b o, G b = some o → (upd (upd G dc (.dK [])) dc (.dK (mergeK [] [(.inl 0, v)]))) b = some o := fun b o e => by
          rw [upd_ne (ne_of_none e nd)]
          exact same_upd nd b o e
        have e1 := g _ _ el
        have e2 := g _ _ et
        have e3 : (upd (upd G dc (.dK [])) dc (.dK (mergeK [] [(.inl 0, v)]))) dc = some (.dK (mergeK [] [(.inl 0, v)])) := upd_same
        have hpa : p ≠ a := n3.ne np
        refine ⟨.ref a, rfl, a, c, _, rfl, n3.new np, by decide, by decide, fun H5 r ex5 hd5 r0 r1 => ?_⟩
        generalize upd (upd G dc (.dK [])) dc (.dK (mergeK [] [(.inl 0, v)])) = G3 at *
        have ep := ex5 _ _ hpa upd_same
        have f1 := ex5 _ _ hla (same_upd np _ _ e1)
        have f2 := ex5 _ _ hta (same_upd np _ _ e2)
        have f3 := ex5 _ _ hda (same_upd np _ _ e3)
        have ex : Ext a H H5 := (ex3.trans x3).trans (((Ext.refl a G3).new np).trans ex5)
        obtain ⟨k, rfl⟩ := Int.eq_ofNat_of_zero_le r0
        have hk : k = 0 ∨ k = 1 ∨ k = 2 := by omega
        rcases hk with rfl | rfl | rfl
        · exact ⟨p, _, _, _, rfl, rfl, sql ep, atI_nat (j := 0) rfl, _, _, rfl, .inr (.inr (.inr ⟨l, _, rfl, hla, f1, .inl ⟨_, rfl⟩⟩)), ex, hd5⟩
        · exact ⟨p, _, _, _, rfl, rfl, sql ep, atI_nat (j := 1) rfl, _, _, rfl, .inr (.inr (.inr ⟨t, _, rfl, hta, f2, .inr (.inl ⟨_, rfl⟩)⟩)), ex, hd5⟩
        · exact ⟨p, _, _, _, rfl, rfl, sql ep, atI_nat (j := 2) rfl, _, _, rfl, .inr (.inr (.inr ⟨dc, _, rfl, hda, f3, .inr (.inr ⟨_, rfl⟩)⟩)), ex, hd5⟩
      · rintro σ H3 ⟨v, y, rfl, hv, ex3, hd3⟩
        exact ⟨v, rfl, q H3 v hv ex3 hd3⟩
/-! _law_is_none -/
def spIsNone (K : PySem.W.Frag) : Sp := fun vs H Q _ => ∃ (v : V) (t : String), vs = [v] ∧ TyX K H v (.type t) ∧ kitB t "str" = some false ∧ Q (.bl true) H
theorem ok_is_none (T : Blt mg) (N : TxNo K mg) (J : TxIs K mg N.C) (cC : Cst mg "CHECKS" (.int 99991)) (dP_is_plain : DnIsPlain K mg) (dP_is_text : DnIsText K mg) (dP_number_of : DnNumberOf K mg) (dP_check : DnCheckP K mg) (d : DnIsNone K mg) : FnOk P w K mg base CX0 4 d.f d.fd ["_law_thing_here"] (spIsNone K) := by
  have GP_check : FnOk P w K mg base (L2.CX P w) 3 dP_check.f dP_check.fd ["text"] (spCheckP K N.C) := ok_checkP T N cC dP_is_plain dP_is_text dP_number_of dP_check
  refine d.F.ok scis_none (fun vs H Q E h => ?_) (fun cdv A outer s H vs Q E hr h => ?_)
  · obtain ⟨v, t, rfl, _⟩ := h
    rfl
  · obtain ⟨v, t, rfl, ty, k, q⟩ := h
    refine ⟨_, (pss_cons (ps_set (i := 1) scis_none.nd rfl (Or.inl rfl) pe_bl)
    (pss_cons (ps_try_as (i := 2) (tb := fun W => tDrop (tCallS (spCheckP K N.C) (WE W) (tCons (tVar 0) tNil))) (ts := fun a cls d => tAsg (tCB (fun xs H Q => cls = .ref N.C ∧ d = none ∧ rIsE K N.C a xs H Q) (tCons (tVar 2) (tCons (tC (.ref J.KE)) tNil))) (gName 1)) (Wout := fun _ _ _ _ => False) rfl rfl scis_none.nd rfl rfl ⟨rfl, by decide, Or.inl N.gC⟩ takes0
      (fun W pn xe tk _ => pss_one (ps_expr (by exact (pe_callS GP_check (hr.mono (by omega)) rfl dP_check.g dP_check.F.kp dP_check.b (fun σ => passAt tk σ) (by exact (pa_cons (pv 0) pa_nil))))))
      (fun a oe cls d pn hz hf => pss_one (ps_set (i := 1) scis_none.nd rfl (Or.inl rfl) (by exact (pe_callB (call_isErr J.isC hz hf) (by rfl) T.n_isinstance (by decide +kernel) (pa_cons (pv 2) (pa_cons (pe_glob rfl J.gKE rfl) pa_nil)))))))
    (pss_one (ps_ret (pv 1))))), ?_⟩
    refine ⟨v, rfl, v, rfl, .inr ⟨t, ty, k, ?_⟩⟩
    refine ⟨true, N.te, fun _ a0 _ => ?_, fun z => Bool.noConfusion z⟩
    exact ⟨.ref a0, rfl, rfl, rfl, .ref J.KE, .ref J.KE, true, rfl, fun u hu => hu, J.kit, _, rfl, q⟩
end
end Kb

namespace Kb
open PySem PySem.Spec PyProof.Rows L2
/-! things compared -/
def Cmp (n : Nat) (d : PyData) : Prop := PyData.eqv d d = true ∧ d.canLay0 = true ∧ d.depth ≤ n
theorem cmp_all {n : Nat} : ∀ ds : List PyData, (∀ d ∈ ds, Cmp n d) → PyData.eqvAll ds ds = true ∧ PyData.canLayAll0 ds = true ∧ PyData.depthAll ds ≤ n
  | [], _ => ⟨by rw [PyData.eqvAll], by rw [PyData.canLayAll0], by rw [PyData.depthAll]; exact Nat.zero_le _⟩
  | d :: r, h => by
    obtain ⟨h1, h2, h3⟩ := h d List.mem_cons_self
    obtain ⟨i1, i2, i3⟩ := cmp_all r fun x hx => h x (List.mem_cons_of_mem _ hx)
    refine ⟨by rw [PyData.eqvAll, h1, i1]; rfl, by rw [PyData.canLayAll0, h2, i2]; rfl, ?_⟩
    rw [PyData.depthAll]
    exact Nat.max_le.mpr ⟨h3, i3⟩
theorem cmp_tup {n : Nat} {ds : List PyData} (h : ∀ d ∈ ds, Cmp n d) : Cmp (n + 1) (.tuple ds) := by
  obtain ⟨i1, i2, i3⟩ := cmp_all ds h
  refine ⟨by rw [PyData.eqv]; exact i1, by rw [PyData.canLay0]; exact i2, ?_⟩
  rw [PyData.depth]
  omega
theorem cmp_leaf {n : Nat} {d : PyData} (hd : ∀ ds, d ≠ .tuple ds) (hw : Wf n d) : Cmp n d := by
  cases d with
  | none => exact ⟨by rw [PyData.eqv], by rw [PyData.canLay0], by rw [PyData.depth]; exact Nat.zero_le _⟩
  | int i => exact ⟨by rw [PyData.eqv]; exact beq_self_eq_true _, by rw [PyData.canLay0], by rw [PyData.depth]; exact Nat.zero_le _⟩
  | str z =>
    have hp := List.all_eq_true.mp (wf_str hw)
    refine ⟨by rw [PyData.eqv]; exact beq_self_eq_true _, ?_, by rw [PyData.depth]; exact Nat.zero_le _⟩
    rw [PyData.canLay0]
    unfold PyData.strOk
    rw [← Array.all_toList]
    refine List.all_eq_true.mpr fun c hc => decide_eq_true ?_
    have := hp c hc
    unfold plainC at this
    simp at this
    omega
  | tuple ds => exact absurd rfl (hd ds)
  | _ => cases n <;> exact hw.elim
theorem cmp_wf : ∀ (n : Nat) (d : PyData), Wf n d → Cmp n d := by
  intro n
  induction n with
  | zero =>
    intro d hw
    refine cmp_leaf (fun ds e => ?_) hw
    subst e
    exact hw
  | succ n ih =>
    intro d hw
    by_cases ht : ∃ ds, d = .tuple ds
    · obtain ⟨ds, rfl⟩ := ht
      exact cmp_tup fun d hd => ih d (wf_mem hw d hd)
    · exact cmp_leaf (fun ds e => ht ⟨ds, e⟩) hw
/-- (d,) -/
theorem cmp_one {d : PyData} (hw : Wf 30 d) : PyData.eqv (.tuple [d]) (.tuple [d]) = true ∧ SeqAt.shaped (.tuple [d]) = true := by
  obtain ⟨h1, h2, h3⟩ := cmp_tup (n := 30) (ds := [d]) fun x hx => by
    rw [List.mem_singleton.mp hx]
    exact cmp_wf 30 d hw
  refine ⟨h1, ?_⟩
  unfold SeqAt.shaped
  rw [h2, decide_eq_true (by omega)]
  rfl
theorem cmp_none : PyData.eqv (.tuple []) (.tuple []) = true ∧ SeqAt.shaped (.tuple []) = true := by decide +kernel
/-! compare for unlikeness, as it is read -/
section
variable {X : Cx}
theorem ne_one {K : PySem.W.Frag} {H : Hp} {t p : Addr} {v u : V} {d : PyData} {Q : VK} (hw : Wf 30 d) (h1 : H t = some (.tup [v])) (h2 : H p = some (.tup [u])) (t1 : Tg H v d) (t2 : Tg H u d) (q : Q (.bl false) H) : rNeD K (.ref t) (.ref p) H Q := by
  refine ⟨.tuple [d], .tuple [d], .tup (.inl (.inl h1)) (.cons t1.dp .nil), .tup (.inl (.inl h2)) (.cons t2.dp .nil), (cmp_one hw).2, (cmp_one hw).2, ?_⟩
  rw [(cmp_one hw).1]
  exact q
theorem ne_none {K : PySem.W.Frag} {H : Hp} {t p : Addr} {Q : VK} (h1 : H t = some (.tup [])) (h2 : H p = some (.tup [])) (q : Q (.bl false) H) : rNeD K (.ref t) (.ref p) H Q := by
  refine ⟨.tuple [], .tuple [], .tup (.inl (.inl h1)) .nil, .tup (.inl (.inl h2)) .nil, cmp_none.2, cmp_none.2, ?_⟩
  rw [cmp_none.1]
  exact q
/-- 'text' * n -/
theorem op_times : OpR X (binaryOp .Mult) (fun x y H Q => ∃ z k, x = .str z ∧ y = .int k ∧ z.length ≤ 16 ∧ 0 ≤ k ∧ k ≤ 100000 ∧ Q (.str (Txt.mul z k)) H) := by
  intro pins s σ H x y v u Q I rx ry h
  obtain ⟨z, k, ex, ey, hz, h0, h1, q⟩ := h
  subst ex ey
  obtain ⟨tz, ez⟩ := rx
  obtain ⟨tk, ek⟩ := ry
  subst ez ek
  exact SB.mul (mulOk_of 16 100000 hz (by omega) (by omega) (by decide) (by decide)) fun t' j => ⟨.str _, H, I.tok j, ⟨_, rfl⟩, q⟩
end
theorem fold_rep (y : Array Nat) : ∀ (n : Nat) (b : Array Nat), ((List.replicate n y).foldl (· ++ ·) b).toList = b.toList ++ (List.replicate n y.toList).flatten
  | 0, b => by simp
  | n + 1, b => by
    rw [List.replicate_succ, List.foldl_cons, fold_rep y n, List.replicate_succ, List.flatten_cons, Array.toList_append, List.append_assoc]
theorem mul_Tx {z : Str} {k : Int} {n : Nat} (hz : (cs z).length = 1) (ht : ∀ c ∈ cs z, textC c = true) (hk : k ≤ (n : Int)) : Tx n (Txt.mul z k) := by
  by_cases h1 : k < 1
  · have e : Txt.mul z k = Str.empty := by
      unfold Txt.mul
      rw [if_pos h1]
    rw [e]
    exact ⟨Nat.zero_le _, fun c hc => by cases hc⟩
  · unfold Txt.mul
    rw [if_neg h1]
    split
    · refine ⟨?_, ht⟩
      rw [hz]
      omega
    · have e : cs (⟨(List.replicate k.toNat z.cps).foldl (· ++ ·) #[]⟩ : Str) = (List.replicate k.toNat (cs z)).flatten := by
        show ((List.replicate k.toNat z.cps).foldl (· ++ ·) #[]).toList = _
        rw [fold_rep]
        rfl
      refine ⟨?_, fun c hc => ?_⟩
      · rw [e, List.length_flatten, List.map_replicate, hz, List.sum_replicate_nat]
        omega
      · rw [e] at hc
        obtain ⟨l, hl, hc⟩ := List.mem_flatten.mp hc
        rw [(List.mem_replicate.mp hl).2] at hc
        exact ht c hc
end Kb

namespace Kb
open PySem PySem.Spec PyProof.Rows L2
abbrev slaw : Stmt := topS 44
abbrev Nlaw : List Str := ["_law_script", "_law_hand_here", "_law_turn", "_law_text", "_law_thing_here", "_law_at", "_law_sign", "_law_again", "_law_bent", "_law_great", "_law_k"]
theorem sclaw : FnScope ["_law_script", "_law_hand_here", "_law_turn", "_law_text", "_law_thing_here", "_law_at", "_law_sign", "_law_again", "_law_bent", "_law_great", "_law_k"] ["_law_script"] (defScope slaw) := ⟨rfl, rfl, rfl, by decide +kernel, rfl, by decide +kernel, by decide +kernel⟩
theorem cut_from {z : Str} {n : Nat} (h : n ≤ (cs z).length) : cutS z (some (n : Int)) none = S ((cs z).drop n) := by
  have hz := cs_len z
  unfold cutS
  rw [HT.sIx_none, show HT.sIx z.length 0 (some (n : Int)) = min n z.length from HT.sIx_nat _ _ _, Nat.min_eq_left (by omega)]
  show S (((cs z).drop n).take (z.length - n)) = _
  rw [List.take_of_length_le (by rw [List.length_drop]; omega)]
theorem cut_last {z : Str} (h : 0 < (cs z).length) : cutS z none (some (-1)) = S (cs z).dropLast := by
  have hz := cs_len z
  unfold cutS
  rw [HT.sIx_none, show HT.sIx z.length z.length (some (-1)) = z.length - 1 by
    show (if (-1 : Int) < 0 then ((-1 : Int) + (z.length : Int)).toNat else min (-1 : Int).toNat z.length) = _
    rw [if_pos (by decide)]
    omega]
  show S (((cs z).drop 0).take (z.length - 1 - 0)) = _
  rw [List.drop_zero, List.dropLast_eq_take, hz, Nat.sub_zero]
/-! what is asked of a text that is bent -/
theorem bent_put {p : List Nat} {d : PyData} {z : Str} (hz : cs z = sl p) (hp : Rd (.one 0) p (some d) []) (hpt : ∀ c ∈ p, textC c = true) (hl : p.length ≤ 1000) {k g ch : Nat} (hk : (cs z)[k]? = some ch) (hg : textC g = true) (hne : g ≠ ch) :
    ∀ e, ¬ Seal (cs (cutS z none (some (k : Int)) ++ S [g] ++ cutS z (some ((k : Int) + 1)) none)) e := by
  have hk2 : k < (cs z).length := (List.getElem?_eq_some_iff.mp hk).1
  rw [cut_to (by omega), show ((k : Int) + 1) = ((k + 1 : Nat) : Int) from rfl, cut_from (by omega), S_app, S_app, cs_S, List.append_assoc]
  refine no_put hp hpt hl (u := (cs z).take k) (c := ch) (v := (cs z).drop (k + 1)) hg ?_ hne
  rw [← hz]
  have e := drop_at hk2
  rw [List.getElem?_eq_getElem hk2] at hk
  rw [Option.some.inj hk] at e
  rw [← e, List.take_append_drop]
theorem bent_last {p : List Nat} {d : PyData} {z : Str} (hz : cs z = sl p) (hp : Rd (.one 0) p (some d) []) : ∀ e, ¬ Seal (cs (cutS z none (some (-1)))) e := by
  rw [cut_last (by rw [hz]; unfold sl; simp; omega), cs_S, hz]
  exact no_last hp
theorem bent_swap {n : Nat} {d : PyData} {z : Str} (hz : cs z = sl (pk d)) (hd : Dr n d) (hn : n ≤ 30) {k g ch : Nat} (hk : (cs z)[k]? = some ch) (hk1 : (cs z)[k + 1]? = some g) (hne : ch ≠ g) :
    ∀ e, ¬ Seal (cs (cutS z none (some (k : Int)) ++ S [g] ++ S [ch] ++ cutS z (some ((k : Int) + 2)) none)) e := by
  have hk2 : k + 1 < (cs z).length := (List.getElem?_eq_some_iff.mp hk1).1
  rw [cut_to (by omega), show ((k : Int) + 2) = ((k + 2 : Nat) : Int) from rfl, cut_from (by omega), S_app, S_app, S_app, cs_S, List.append_assoc, List.append_assoc]
  refine no_swap hd hn (u := (cs z).take k) (c := ch) (s := g) (v := (cs z).drop (k + 2)) ?_ hne
  rw [← hz]
  have e := drop_at (show k < (cs z).length by omega)
  have e2 := drop_at hk2
  rw [List.getElem?_eq_getElem (show k < (cs z).length by omega)] at hk
  rw [List.getElem?_eq_getElem hk2] at hk1
  rw [Option.some.inj hk] at e
  rw [Option.some.inj hk1] at e2
  rw [show (ch :: g :: (cs z).drop (k + 2)) = (cs z).drop k by rw [e, e2], List.take_append_drop]
section
variable {P : Program} {w : World} {K : PySem.W.Frag} {mg : Str → Option Value} {base : Heap}
abbrev DnLaw (K : PySem.W.Frag) (mg : Str → Option Value) := Dn K mg "law" slaw ["_law_script"]
def spLaw (K : PySem.W.Frag) : Sp := fun vs H Q _ => ∃ (a : Addr) (ns : List Int), vs = [.ref a] ∧ SqL K H a (ns.map V.int) ∧ ns.length ≤ 63 ∧ ∀ H', Q (.bl true) H'
theorem ok_law (T : Blt mg) (N : TxNo K mg) (B : TxBad K mg) (J : TxIs K mg N.C) (cD : Cst mg "DEEPEST" (.int 30)) (cM : Cst mg "MOST_DIGITS" (.int 30)) (cC : Cst mg "CHECKS" (.int 99991))
    (dP_is_int : DnIsInt K mg) (dP_is_plain : DnIsPlain K mg) (dP_is_text : DnIsText K mg) (dP_packed : DnPackedP K mg) (dP_text_of : DnTextOf K mg) (dP_unpacked : DnUnpackedP K mg) (dP_entered : DnEntered K mg) (dP_left : DnLeft K mg) (dP_single : DnSingle K mg) (dP_quoted : DnQuoted K mg) (dP_written : DnWritten K mg)
    (dP_check : DnCheckP K mg) (dP_number_of : DnNumberOf K mg) (dP_sealed : DnSealedP K mg) (dP_unsealed : DnUnsealedP K mg)
    (dhand : Dn K mg "_law_hand" shand ["_law_script"]) (ddraw : DnDraw K mg) (dany : DnAny K mg) (dword : DnWord K mg) (dthing : DnThing K mg) (dpacked : DnPackedL K mg) (dcheck : DnCheckL K mg) (dsealed : DnSealedL K mg) (dfirst_wrong : DnFirstWrong K mg) (dread_string : DnReadString K mg) (dread_integer : DnReadInteger K mg) (dread_tuple : DnReadTuple K mg)
    (dunpacked : DnUnpackedL K mg) (dchanged : DnChanged K mg) (ddeep : DnDeep K mg) (ddue : DnDue K mg) (dis_none : DnIsNone K mg) (d : DnLaw K mg) : FnOk P w K mg base CX0 65 d.f d.fd ["_law_script"] (spLaw K) := by
  have Ghand : FnOk P w K mg base CX0 1 dhand.f dhand.fd ["_law_script"] (spHand K) := ok_hand T dhand
  have Gdraw : FnOk P w K mg base CX0 1 ddraw.f ddraw.fd ["_law_hand_here", "_law_many"] spDraw := ok_draw T ddraw
  have Gany : FnOk P w K mg base CX0 2 dany.f dany.fd ["_law_hand_here", "_law_things"] spAny := ok_any T ddraw dany
  have Gthing : FnOk P w K mg base CX0 7 dthing.f dthing.fd ["_law_hand_here", "_law_deep_here"] (spThing 3) := ok_thing T ddraw dany dword dthing 3
  have Gcheck : FnOk P w K mg base CX0 1 dcheck.f dcheck.fd ["_law_text"] spCheckL := ok_checkL T dcheck
  have Gsealed : FnOk P w K mg base CX0 33 dsealed.f dsealed.fd ["_law_thing_here"] spSealedP := ok_sealedL T dpacked dcheck dsealed
  have Gdue : FnOk P w K mg base CX0 64 ddue.f ddue.fd ["_law_text"] spDue := ok_due T dread_string dread_integer dread_tuple dfirst_wrong dunpacked dpacked dcheck dsealed ddue
  have Gchanged : FnOk P w K mg base CX0 3 dchanged.f dchanged.fd ["_law_hand_here", "_law_text"] spChanged := ok_changed T ddraw dany dchanged
  have Gdeep : FnOk P w K mg base CX0 2 ddeep.f ddeep.fd ["_law_hand_here"] spDeep := ok_deep T ddraw ddeep
  have Gis_none : FnOk P w K mg base CX0 4 dis_none.f dis_none.fd ["_law_thing_here"] (spIsNone K) := ok_is_none T N J cC dP_is_plain dP_is_text dP_number_of dP_check dis_none
  have GP_check : FnOk P w K mg base (L2.CX P w) 3 dP_check.f dP_check.fd ["text"] (spCheckP K N.C) := ok_checkP T N cC dP_is_plain dP_is_text dP_number_of dP_check
  have GP_sealed : FnOk P w K mg base CX0 34 dP_sealed.f dP_sealed.fd ["thing"] spSealedP := ok_sealedP T N cD cC dP_is_int dP_is_plain dP_text_of dP_packed dP_is_text dP_number_of dP_check dP_sealed
  have GP_unsealed : FnOk P w K mg base CX0 6 dP_unsealed.f dP_unsealed.fd ["text"] (spUnsealed K) := ok_unsealed T N B cD cM cC dP_quoted dP_written dP_single dP_left dP_entered dP_unpacked dP_is_plain dP_is_text dP_number_of dP_check dP_unsealed
  refine d.F.ok sclaw (fun vs H Q E h => ?_) (fun cdv A outer s H vs Q E hr h => ?_)
  · obtain ⟨a, ns, rfl, _⟩ := h
    rfl
  · obtain ⟨a, ns, rfl, hS, hlen, q⟩ := h
    refine ⟨_, (pss_cons (ps_set (i := 1) sclaw.nd rfl (Or.inr rfl) (pe_call Ghand (hr.mono (by omega)) (by rfl) dhand.g dhand.F.kp dhand.b .nil pass0 (pa_cons (pv 0) pa_nil)))
    (pss_cons (ps_for PassesOwn.never rfl (pi_range1 (by rfl) T.n_range (pa_cons pe_int pa_nil)) (pg_name (i := 2) sclaw.nd rfl (Or.inl rfl))
      (pss_cons (ps_set (i := 3) sclaw.nd rfl (Or.inl rfl) (pe_join pe_str (pe_lc (own := [("_law_k", 10)]) (g := gName 10) (tt := tYes) rfl sclaw.nd (pi_range1 (by rfl) T.n_range (pa_cons (pe_call Gdraw (hr.mono (by omega)) (by rfl) ddraw.g ddraw.F.kp ddraw.b .nil pass0 (pa_cons (pv 1) (pa_cons pe_int pa_nil))) pa_nil)) (blkOk_by (N := Nlaw) (sc := defScope slaw) (by decide +kernel)) (fun _ _ _ _ _ => pg_name (i := 10) sclaw.nd rfl (Or.inl rfl)) (fun _ _ _ _ _ => pts_nil) (fun _ _ _ _ _ => (pe_call Gany (hr.mono (by omega)) (by rfl) dany.g dany.F.kp dany.b .nil pass0 (pa_cons (pv 1) (pa_cons pe_str pa_nil)))))))
      (pss_cons (ps_if (PW.pt (pw_or (pt_cmpR op_ne (pe_call GP_check (hr.mono (by omega)) (by rfl) dP_check.g dP_check.F.kp dP_check.b .nil (passes_call takes0 (fun _ _ _ _ h => h)) (pa_cons (pv 3) pa_nil)) (pe_call Gcheck (hr.mono (by omega)) (by rfl) dcheck.g dcheck.F.kp dcheck.b .nil pass0 (pa_cons (pv 3) pa_nil)) (nomark _)) (pw_or1 (pt_val (pe_callB call_isi (by rfl) T.n_isinstance (by decide +kernel) (pa_cons (pe_call GP_check (hr.mono (by omega)) (by rfl) dP_check.g dP_check.F.kp dP_check.b .nil (passes_call takes0 (fun _ _ _ _ h => h)) (pa_cons (pv 3) pa_nil)) (pa_cons (pe_bltn (v := .ty "bool") (by rfl) T.n_bool (by decide +kernel) rfl) pa_nil)))))))
        (pss_one (ps_ret pe_bl))
        pss_nil)
      (pss_cons (ps_set (i := 4) sclaw.nd rfl (Or.inl rfl) (pe_call Gthing (hr.mono (by omega)) (by rfl) dthing.g dthing.F.kp dthing.b .nil pass0 (pa_cons (pv 1) (pa_cons pe_int pa_nil))))
      (pss_cons (ps_set (i := 3) sclaw.nd rfl (Or.inl rfl) (pe_call Gsealed (hr.mono (by omega)) (by rfl) dsealed.g dsealed.F.kp dsealed.b .nil pass0 (pa_cons (pv 4) pa_nil)))
      (pss_cons (ps_if (PW.pt (pw_or (pt_cmpR op_ne (pe_call GP_sealed (hr.mono (by omega)) (by rfl) dP_sealed.g dP_sealed.F.kp dP_sealed.b .nil pass0 (pa_cons (pv 4) pa_nil)) (pv 3) (nomark _)) (pw_or (pt_cmpR (op_neD hr.units) (pe_call GP_unsealed (hr.mono (by omega)) (by rfl) dP_unsealed.g dP_unsealed.F.kp dP_unsealed.b .nil pass0 (pa_cons (pv 3) pa_nil)) (pe_tup (pa_cons (pv 4) pa_nil)) (nomark _)) (pw_or1 (pt_cmpR (op_neD hr.units) (pe_call Gdue (hr.mono (by omega)) (by rfl) ddue.g ddue.F.kp ddue.b .nil pass0 (pa_cons (pv 3) pa_nil)) (pe_tup (pa_cons (pv 4) pa_nil)) (nomark _))))))
        (pss_one (ps_ret pe_bl))
        pss_nil)
      (pss_cons (ps_set (i := 5) sclaw.nd rfl (Or.inl rfl) (pe_call Gdraw (hr.mono (by omega)) (by rfl) ddraw.g ddraw.F.kp ddraw.b .nil pass0 (pa_cons (pv 1) (pa_cons (pe_callB call_len_str (by rfl) T.n_len (by decide +kernel) (pa_cons (pv 3) pa_nil)) pa_nil))))
      (pss_cons (ps_set (i := 6) sclaw.nd rfl (Or.inl rfl) (pe_call Gany (hr.mono (by omega)) (by rfl) dany.g dany.F.kp dany.b .nil pass0 (pa_cons (pv 1) (pa_cons pe_str pa_nil))))
      (C8.pss_cut (ps_if (PW.pt (pw_and (pt_cmpR op_ne (pv 6) (pe_ix ix_str (pv 3) (pv 5) (fun _ _ => rfl)) (nomark _)) (pw_and1 (pt_cmpR (op_neD hr.units) (pe_call GP_unsealed (hr.mono (by omega)) (by rfl) dP_unsealed.g dP_unsealed.F.kp dP_unsealed.b .nil pass0 (pa_cons (pe_op op_add_str (pe_op op_add_str (pe_slice sl_str (pv 3) po_none (po_some (pv 5))) (pv 6)) (pe_slice sl_str (pv 3) (po_some (pe_op op_add (pv 5) pe_int)) po_none)) pa_nil)) (pe_tup pa_nil) (nomark _)))))
        (pss_one (ps_ret pe_bl))
        pss_nil)
      (pss_cons (ps_if (pt_cmpR (op_neD hr.units) (pe_call GP_unsealed (hr.mono (by omega)) (by rfl) dP_unsealed.g dP_unsealed.F.kp dP_unsealed.b .nil pass0 (pa_cons (pe_slice sl_str (pv 3) po_none (po_some (pe_un un_neg pe_int))) pa_nil)) (pe_tup pa_nil) (nomark _))
        (pss_one (ps_ret pe_bl))
        pss_nil)
      (C8.pss_cut (ps_if (PW.pt (pw_and (pt_cmpR op_lt (pe_op op_add (pv 5) pe_int) (pe_callB call_len_str (by rfl) T.n_len (by decide +kernel) (pa_cons (pv 3) pa_nil)) (nomark _)) (pw_and1 (pt_cmpR op_ne (pe_ix ix_str (pv 3) (pv 5) (fun _ _ => rfl)) (pe_ix ix_str (pv 3) (pe_op op_add (pv 5) pe_int) (fun _ _ => rfl)) (nomark _)))))
        (pss_one (ps_if (pt_cmpR (op_neD hr.units) (pe_call GP_unsealed (hr.mono (by omega)) (by rfl) dP_unsealed.g dP_unsealed.F.kp dP_unsealed.b .nil pass0 (pa_cons (pe_op op_add_str (pe_op op_add_str (pe_op op_add_str (pe_slice sl_str (pv 3) po_none (po_some (pv 5))) (pe_ix ix_str (pv 3) (pe_op op_add (pv 5) pe_int) (fun _ _ => rfl))) (pe_ix ix_str (pv 3) (pv 5) (fun _ _ => rfl))) (pe_slice sl_str (pv 3) (po_some (pe_op op_add (pv 5) pe_int)) po_none)) pa_nil)) (pe_tup pa_nil) (nomark _))
          (pss_one (ps_ret pe_bl))
          pss_nil))
        pss_nil)
      (pss_one (ps_for PassesOwn.never rfl (pi_range1 (by rfl) T.n_range (pa_cons pe_int pa_nil)) (pg_name (i := 7) sclaw.nd rfl (Or.inl rfl))
        (pss_cons (ps_set (i := 8) sclaw.nd rfl (Or.inl rfl) (pe_call Gchanged (hr.mono (by omega)) (by rfl) dchanged.g dchanged.F.kp dchanged.b .nil pass0 (pa_cons (pv 1) (pa_cons (pv 3) pa_nil))))
        (pss_one (ps_if (pt_cmpR (op_neD hr.units) (pe_call GP_unsealed (hr.mono (by omega)) (by rfl) dP_unsealed.g dP_unsealed.F.kp dP_unsealed.b .nil pass0 (pa_cons (pv 8) pa_nil)) (pe_call Gdue (hr.mono (by omega)) (by rfl) ddue.g ddue.F.kp ddue.b .nil pass0 (pa_cons (pv 8) pa_nil)) (nomark _))
          (pss_one (ps_ret pe_bl))
          pss_nil))))))))))))))))
    (pss_cons (ps_set (i := 9) sclaw.nd rfl (Or.inl rfl) (pe_op op_times pe_str (pe_op op_add pe_int (pe_call Gdraw (hr.mono (by omega)) (by rfl) ddraw.g ddraw.F.kp ddraw.b .nil pass0 (pa_cons (pv 1) (pa_cons pe_int pa_nil))))))
    (pss_cons (ps_if (pt_cmpR op_ne (pe_call GP_check (hr.mono (by omega)) (by rfl) dP_check.g dP_check.F.kp dP_check.b .nil (passes_call takes0 (fun _ _ _ _ h => h)) (pa_cons (pv 9) pa_nil)) (pe_call Gcheck (hr.mono (by omega)) (by rfl) dcheck.g dcheck.F.kp dcheck.b .nil pass0 (pa_cons (pv 9) pa_nil)) (nomark _))
      (pss_one (ps_ret pe_bl))
      pss_nil)
    (pss_cons (ps_if (pt_cmpR (op_neD hr.units) (pe_call GP_unsealed (hr.mono (by omega)) (by rfl) dP_unsealed.g dP_unsealed.F.kp dP_unsealed.b .nil pass0 (pa_cons (pe_call Gany (hr.mono (by omega)) (by rfl) dany.g dany.F.kp dany.b .nil pass0 (pa_cons (pv 1) (pa_cons (pe_lst (pa_cons pe_non (pa_cons pe_int (pa_cons (pe_lst (pa_cons pe_str pa_nil)) (pa_cons (pe_tup pa_nil) (pa_cons pe_dnewK (pa_cons pe_bl (pa_cons (pe_call Gdeep (hr.mono (by omega)) (by rfl) ddeep.g ddeep.F.kp ddeep.b .nil pass0 (pa_cons (pv 1) pa_nil)) pa_nil)))))))) pa_nil))) pa_nil)) (pe_tup pa_nil) (nomark _))
      (pss_one (ps_ret pe_bl))
      pss_nil)
    (pss_one (ps_ret (pe_call Gis_none (hr.mono (by omega)) (by rfl) dis_none.g dis_none.F.kp dis_none.b .nil pass0 (pa_cons (pe_call Gany (hr.mono (by omega)) (by rfl) dany.g dany.F.kp dany.b .nil pass0 (pa_cons (pv 1) (pa_cons (pe_lst (pa_cons pe_non (pa_cons pe_int (pa_cons (pe_lst (pa_cons pe_str pa_nil)) (pa_cons (pe_tup pa_nil) (pa_cons pe_bl (pa_cons pe_dnewK (pa_cons (pe_tup (pa_cons pe_str pa_nil)) (pa_cons (pe_call Gdeep (hr.mono (by omega)) (by rfl) ddeep.g ddeep.F.kp ddeep.b .nil pass0 (pa_cons (pv 1) pa_nil)) pa_nil))))))))) pa_nil))) pa_nil))))))))), ?_⟩
    refine ⟨.ref a, rfl, a, ns, rfl, hS, hlen, fun H1 h c _ _ hd1 => ?_⟩
    refine ⟨_, rfl, by decide, by decide, for_range (lo := 0) (n := 3) (fun i σ H' => ∃ y2 y3 y4 y5 y6 y7 y8 y9 y10 : Option V, σ = [some (.ref a), some (.ref h), y2, y3, y4, y5, y6, y7, y8, y9, y10] ∧ Hand c H' h) ⟨_, _, _, _, _, _, _, _, _, rfl, hd1⟩ ?_ ?_⟩
    · rintro i σ H2 hi ⟨y2, y3, y4, y5, y6, y7, y8, y9, y10, rfl, hd2⟩
      refine ⟨⟨_, rfl⟩, .ref h, rfl, h, c, _, rfl, hd2, by decide, by decide, fun H3 r ex3 hd3 r0 r1 => ?_⟩
      obtain ⟨k, rfl⟩ := Int.eq_ofNat_of_zero_le r0
      refine ⟨_, rfl, by omega, by omega, fun D nD => ?_⟩
      refine lc_range (lo := 0) (n := k) (fun i H4 => Ext h H3 H4 ∧ Hand c H4 h ∧ ∃ l : List Nat, l.length = i ∧ (∀ c ∈ l, textC c = true) ∧ H4 D = some (.lst (l.map fun c => V.str (S [c])))) ⟨(Ext.refl h H3).put nD, hd3.put hd3 nD, [], rfl, by simp, upd_same⟩ (fun i H4 hi h4 => ?_) (fun H4 h4 => ?_)
      · obtain ⟨ex4, hd4, l, hl, hp, eD⟩ := h4
        refine ⟨rfl, .ref h, rfl, h, c, _, rfl, hd4, .inr ⟨_, rfl, by decide +kernel, by decide +kernel, fun H5 s hs ex5 hd5 => ?_⟩⟩
        have eD5 := ex5 _ _ (hd3.ne nD) eD
        refine ⟨_, eD5, ?_, (ex4.trans ex5).put nD, hd5.put hd3 nD, l ++ [s], ?_, ?_, ?_⟩
        · rw [List.length_map]
          exact small1000 (by omega)
        · rw [List.length_append, hl]
          rfl
        · intro x hx
          rcases List.mem_append.mp hx with hx | hx
          · exact hp x hx
          · rw [List.mem_singleton.mp hx]
            exact all_text (by decide +kernel) s hs
        · rw [upd_same, List.map_append]
          rfl
      · obtain ⟨ex4, hd4, l, hl, hp, eD⟩ := h4
        refine ⟨_, D, l.map fun c => S [c], rfl, rfl, .inl (sql ?_), ?_, ?_⟩
        · rw [eD, List.map_map]
          rfl
        · rw [List.map_map, List.length_map]
          have : ((List.map ((fun x => x.length) ∘ fun c => S [c]) l)).sum = l.length := by
            clear hl hp eD
            induction l with
            | nil => rfl
            | cons x r ih =>
              rw [List.map_cons, List.sum_cons, ih, List.length_cons]
              show 1 + _ = _
              omega
          rw [this]
          show l.length + l.length * 0 ≤ 16777216
          omega
        · have e : Txt.join (Str.ofString "") (l.map fun c => S [c]) = S l := join_signs l
          rw [e]
          have hz : Tx 1000 (S l) := ⟨by rw [cs_S]; omega, by rw [cs_S]; exact hp⟩
          generalize S l = z at hz
          have hzl := hz.1
          refine ⟨.str z, rfl, .str z, rfl, .inl ⟨z, rfl, by omega, hz.2, fun H5 s5 => ⟨.str z, rfl, z, rfl, by omega, hz.2, fun H6 s6 => ⟨rfl, _, rfl, ite2 (fun e => by simp at e) (fun _ => ?_)⟩⟩⟩⟩
          refine ⟨.str z, rfl, .str z, rfl, .inl ⟨z, rfl, by omega, hz.2, fun H7 s7 => ?_⟩⟩
          have hd7 := hd4.keep ((s5.trans s6).trans s7)
          refine ⟨_, _, _, _, false, rfl, .ty "bool", .base (.int _), kit_ty (by decide +kernel), false, rfl, iteF ?_⟩
          clear hz hzl
          -- a thing, and its sealed text
          refine ⟨.ref h, rfl, h, c, rfl, hd7, fun H8 v d tv dv ex8 hd8 => ?_⟩
          have hp := rt0 dv (by decide)
          obtain ⟨_, wd⟩ := canon hp
          have hlp : (pk d).length ≤ 889 := pk_most dv
          have hpt : ∀ c ∈ pk d, textC c = true := fun c hc => by
            have := wf_text wd c
            rw [cs_S] at this
            exact this hc
          refine ⟨v, rfl, v, d, rfl, tv, wd, by omega, fun H9 s9 => ?_⟩
          obtain ⟨z, hz⟩ : ∃ z, z = S (sl (pk d)) := ⟨_, rfl⟩
          rw [← hz]
          have hcz : cs z = sl (pk d) := by rw [hz, cs_S]
          have hlz : (cs z).length ≤ 1000 := by
            rw [hcz]
            have := sl_len (pk d)
            omega
          have hzp : 0 < (cs z).length := by
            rw [hcz]
            unfold sl
            simp
            omega
          have hzs := cs_len z
          have hl : z.length ≤ sizeLine := by rw [sizeLine_eq, ← hzs]; omega
          have hT : Tx 2000 z := ⟨by omega, fun c hc => by
            rw [hcz] at hc
            unfold sl at hc
            rcases List.mem_append.mp hc with hc | hc
            · exact hpt c hc
            · rcases List.mem_cons.mp hc with hc | hc
              · rw [hc]
                decide
              · unfold textC
                rw [dig_plain (.inr (dg_dig (ck_lo _) c hc)), Bool.or_true]⟩
          have tv9 := tv.same s9
          have hd9 := hd8.keep s9
          refine ⟨v, rfl, v, d, rfl, tv9, wd, by omega, fun H10 s10 => ⟨.str z, rfl, rfl, _, rfl, ite2 (fun e => by rw [← hz] at e; simp at e) (fun _ => ?_)⟩⟩
          have tv10 := tv9.same s10
          have hd10 := hd9.keep s10
          have hse : Seal (cs z) d := ⟨pk d, hcz, hp⟩
          refine ⟨.str z, rfl, .str z, rfl, .inl ⟨z, rfl, by omega, fun H11 t v' d' s11 se et tv' => ?_, fun H11 t _ no _ => absurd hse (no d)⟩⟩
          have ed := seal_one se hse
          subst ed
          have tv11 := tv10.same s11
          refine ⟨v, rfl, (by decide : 1 ≤ sizeLine), fun p np => ne_one wd (same_upd np _ _ et) upd_same (tv'.new np) (tv11.new np) ⟨false, rfl, iteF ?_⟩⟩
          have hd12 := (hd10.keep s11).new (o := .tup [v]) np
          have tv12 := tv11.new (o := .tup [v]) np
          refine ⟨.str z, rfl, z, rfl, by omega, fun H13 t2 v2 d2 s13 se2 et2 tv2 => ?_, fun H13 t _ no _ => absurd hse (no d')⟩
          have ed2 := seal_one se2 hse
          subst ed2
          refine ⟨v, rfl, (by decide : 1 ≤ sizeLine), fun p2 np2 => ne_one wd (same_upd np2 _ _ et2) upd_same (tv2.new np2) ((tv12.same s13).new np2) ⟨false, rfl, iteF ?_⟩⟩
          have hd14 := (hd12.keep s13).new (o := .tup [v]) np2
          -- a place and a sign
          refine ⟨.ref h, rfl, .str z, rfl, _, rfl, hl, h, c, _, rfl, hd14, by omega, by omega, fun H15 r ex15 hd15 r0 r1 => ?_⟩
          obtain ⟨k, rfl⟩ := Int.eq_ofNat_of_zero_le r0
          have hk : k < (cs z).length := by omega
          have ec : (cs z)[k]? = some (cs z)[k] := List.getElem?_eq_getElem hk
          generalize (cs z)[k] = ch at ec
          refine ⟨.ref h, rfl, h, c, _, rfl, hd15, .inr ⟨_, rfl, by decide +kernel, by decide +kernel, fun H16 g hg ex16 hd16 => ?_⟩⟩
          have hgt : textC g = true := all_text (by decide +kernel) g hg
          have hT1 : Tx 1 (S [g]) := Tx.one hgt
          refine ⟨fun σ H' => σ = [some (.ref a), some (.ref h), some (.int (0 + (i : Int))), some (.str z), some v, some (.int (k : Int)), some (.str (S [g])), y7, y8, y9, y10] ∧ Hand c H' h, ?_, ?_⟩
          · refine ⟨.str (S [g]), rfl, .str z, rfl, .int (k : Int), rfl, z, _, ch, rfl, rfl, hl, atI_nat ec, rfl, _, rfl, ite2 (fun e => ?_) (fun _ => iteF ⟨rfl, hd16⟩)⟩
            have hne : g ≠ ch := fun z => by
              rw [z] at e
              exact absurd e (by simp [S])
            refine ⟨.str z, rfl, .int (k : Int), rfl, k, rfl, z, rfl, hl, .str (S [g]), rfl, _, _, rfl, rfl, (hT.cut _ _).size2 hT1 (by decide), .str z, rfl, .int (k : Int), rfl, _, _, rfl, rfl, _, rfl, z, rfl, hl, _, _, rfl, rfl, ((hT.cut _ _).app hT1).size2 (hT.cut _ _) (by decide), ?_⟩
            have hb := bent_put hcz hp hpt (by omega) ec hgt hne
            have hbT := ((hT.cut none (some (k : Int))).app hT1).app (hT.cut (some ((k : Int) + 1)) none)
            refine ⟨_, rfl, .inl ⟨_, rfl, Nat.le_trans hbT.1 (by decide), fun H17 t v' d' _ se _ _ => absurd se (hb d'), fun H17 t s17 _ et => ?_⟩⟩
            exact ⟨Nat.zero_le _, fun p np => ne_none (same_upd np _ _ et) upd_same ⟨false, rfl, iteF ⟨rfl, (hd16.keep s17).new np⟩⟩⟩
          · rintro σ H17 ⟨rfl, hd17⟩
            refine ⟨.str z, rfl, _, rfl, _, rfl, z, rfl, hl, ?_⟩
            have hb := bent_last hcz hp
            refine ⟨_, rfl, .inl ⟨_, rfl, Nat.le_trans (hT.cut none (some (-1))).1 (by decide), fun H18 t v' d' _ se _ _ => absurd se (hb d'), fun H18 t s18 _ et => ?_⟩⟩
            refine ⟨Nat.zero_le _, fun p np => ne_none (same_upd np _ _ et) upd_same ⟨false, rfl, iteF ?_⟩⟩
            have hd18 := (hd17.keep s18).new (o := .tup []) np
            generalize upd H18 p (.tup []) = H19 at *
            refine ⟨fun σ H' => σ = [some (.ref a), some (.ref h), some (.int (0 + (i : Int))), some (.str z), some v, some (.int (k : Int)), some (.str (S [g])), y7, y8, y9, y10] ∧ Hand c H' h, ?_, ?_⟩
            · refine ⟨.int (k : Int), rfl, _, _, rfl, rfl, .str z, rfl, _, rfl, hl, _, _, rfl, rfl, _, rfl, ite2 (fun e1 => ?_) (fun _ => iteF ⟨rfl, hd18⟩)⟩
              have hk1 : k + 1 < (cs z).length := by
                have := of_decide_eq_true e1
                omega
              have ec1 : (cs z)[k + 1]? = some (cs z)[k + 1] := List.getElem?_eq_getElem hk1
              generalize (cs z)[k + 1] = g1 at ec1
              refine ⟨.str z, rfl, .int (k : Int), rfl, z, _, ch, rfl, rfl, hl, atI_nat ec, .str z, rfl, .int (k : Int), rfl, _, _, rfl, rfl, z, _, g1, rfl, rfl, hl, atI_nat ec1, rfl, _, rfl, ite2 (fun e2 => ?_) (fun _ => ⟨rfl, hd18⟩)⟩
              have hne : ch ≠ g1 := fun z => by
                rw [z] at e2
                exact absurd e2 (by simp)
              have t1 : Tx 1 (S [ch]) := Tx.one (hT.2 ch (List.mem_of_getElem? ec))
              have t2 : Tx 1 (S [g1]) := Tx.one (hT.2 g1 (List.mem_of_getElem? ec1))
              refine ⟨.str z, rfl, .int (k : Int), rfl, k, rfl, z, rfl, hl, .str z, rfl, .int (k : Int), rfl, _, _, rfl, rfl, z, _, g1, rfl, rfl, hl, atI_nat ec1, _, _, rfl, rfl, (hT.cut _ _).size2 t2 (by decide), .str z, rfl, .int (k : Int), rfl, z, _, ch, rfl, rfl, hl, atI_nat ec, _, _, rfl, rfl, ((hT.cut _ _).app t2).size2 t1 (by decide), .str z, rfl, .int (k : Int), rfl, _, _, rfl, rfl, _, rfl, z, rfl, hl, _, _, rfl, rfl, (((hT.cut _ _).app t2).app t1).size2 (hT.cut _ _) (by decide), ?_⟩
              have hb := bent_swap hcz dv (by decide) ec ec1 hne
              have hbT := (((hT.cut none (some (k : Int))).app t2).app t1).app (hT.cut (some ((k : Int) + 2)) none)
              refine ⟨_, rfl, .inl ⟨_, rfl, Nat.le_trans hbT.1 (by decide), fun H20 t v' d' _ se _ _ => absurd se (hb d'), fun H20 t s20 _ et => ?_⟩⟩
              exact ⟨Nat.zero_le _, fun p np => ne_none (same_upd np _ _ et) upd_same ⟨false, rfl, iteF ⟨rfl, (hd18.keep s20).new np⟩⟩⟩
            · rintro σ H20 ⟨rfl, hd20⟩
              refine ⟨_, rfl, by decide, by decide, for_range (lo := 0) (n := 4) (fun j σ H' => ∃ y7 y8 : Option V, σ = [some (.ref a), some (.ref h), some (.int (0 + (i : Int))), some (.str z), some v, some (.int (k : Int)), some (.str (S [g])), y7, y8, y9, y10] ∧ Hand c H' h) ⟨_, _, rfl, hd20⟩ ?_ ?_⟩
              · rintro j σ H21 hj ⟨y7, y8, rfl, hd21⟩
                refine ⟨.ref h, rfl, .str z, rfl, h, c, z, rfl, hd21, hT, fun H22 y hy ex22 hd22 => ?_⟩
                have hy1 := hy.1
                refine ⟨.str y, rfl, .str y, rfl, .inl ⟨y, rfl, by omega, fun H23 t v1 d1 s23 se1 et1 tv1 => ?_, fun H23 t s23 no et1 => ?_⟩⟩
                · have hd23 := hd22.keep s23
                  refine ⟨.str y, rfl, y, rfl, by omega, fun H24 t2 v2 d2 s24 se2 et2 tv2 => ?_, fun H24 t _ no _ => absurd se1 (no d1)⟩
                  have ed := seal_one se2 se1
                  subst ed
                  obtain ⟨a', _, ha'⟩ := id se1
                  exact ne_one (canon ha').2 (s24 _ _ et1) et2 (tv1.same s24) tv2 ⟨false, rfl, iteF ⟨_, _, rfl, hd23.keep s24⟩⟩
                · have hd23 := hd22.keep s23
                  refine ⟨.str y, rfl, y, rfl, by omega, fun H24 t2 v2 d2 s24 se2 et2 tv2 => absurd se2 (no d2), fun H24 t2 s24 _ et2 => ?_⟩
                  exact ne_none (s24 _ _ et1) et2 ⟨false, rfl, iteF ⟨_, _, rfl, hd23.keep s24⟩⟩
              · rintro σ H21 ⟨y7, y8, rfl, hd21⟩
                exact ⟨_, _, _, _, _, _, _, _, _, rfl, hd21⟩
    · rintro σ H2 ⟨y2, y3, y4, y5, y6, y7, y8, y9, y10, rfl, hd2⟩
      refine ⟨.ref h, rfl, h, c, _, rfl, hd2, by decide, by decide, fun H3 r ex3 hd3 r0 r1 => ?_⟩
      refine ⟨_, _, rfl, rfl, _, _, rfl, rfl, by decide +kernel, by omega, by omega, ?_⟩
      have hg : Tx 10000 (Txt.mul (Str.ofString "~") (2000 + r)) := mul_Tx (by decide +kernel) (all_text (by decide +kernel)) (by omega)
      generalize Txt.mul (Str.ofString "~") (2000 + r) = g at hg
      have hg1 := hg.1
      refine ⟨.str g, rfl, .str g, rfl, .inl ⟨g, rfl, by omega, hg.2, fun H4 s4 => ⟨.str g, rfl, g, rfl, by omega, hg.2, fun H5 s5 => ⟨rfl, _, rfl, ite2 (fun e => by simp at e) (fun _ => ?_)⟩⟩⟩⟩
      have hd5 := (hd3.keep s4).keep s5
      -- values that are no texts
      refine ⟨.ref h, rfl, (by decide : 1 ≤ sizeLine), fun l1 nl => ⟨Nat.zero_le _, fun t1 nt => fun d1 nd => ?_⟩⟩
      have g1 := hd5.new (o := .lst [.str (Str.ofString "x")]) nl
      have g2 := g1.new (o := .tup []) nt
      have g3 := g2.new (o := .dK []) nd
      refine ⟨.ref h, rfl, h, c, rfl, g3, fun H6 u hu ex6 hd6 => ⟨(by decide : 7 ≤ sizeLine), fun p np => ?_⟩⟩
      have el : H6 l1 = some (.lst [.str (Str.ofString "x")]) := ex6 _ _ (hd5.ne nl) (same_upd nd _ _ (same_upd nt _ _ upd_same))
      have et : H6 t1 = some (.tup []) := ex6 _ _ (g1.ne nt) (same_upd nd _ _ upd_same)
      have ed : H6 d1 = some (.dK []) := ex6 _ _ (g2.ne nd) upd_same
      have xp : Ext h H6 (upd H6 p (.lst [.non, .int 5, .ref l1, .ref t1, .ref d1, .bl true, u])) := (Ext.refl h H6).new np
      refine ⟨h, c, _, rfl, hd6.new np, .inl ⟨p, _, rfl, hd6.ne np, upd_same, (show 0 < 7 by decide), (show 7 ≤ 1000 by decide), fun H7 v hv ex7 hd7 => ?_⟩⟩
      have hno : NoS h H7 v := by
        refine NoS.ext (H := H6) ?_ (xp.trans ex7)
        simp only [List.mem_cons, List.not_mem_nil, or_false] at hv
        rcases hv with rfl | rfl | rfl | rfl | rfl | rfl | rfl
        · exact .inl rfl
        · exact .inr (.inl ⟨_, rfl⟩)
        · exact .inr (.inr (.inr ⟨_, _, rfl, hd5.ne nl, el, .inl ⟨_, rfl⟩⟩))
        · exact .inr (.inr (.inr ⟨_, _, rfl, g1.ne nt, et, .inr (.inl ⟨_, rfl⟩)⟩))
        · exact .inr (.inr (.inr ⟨_, _, rfl, g2.ne nd, ed, .inr (.inr ⟨_, rfl⟩)⟩))
        · exact .inr (.inr (.inl ⟨_, rfl⟩))
        · exact hu
      obtain ⟨ty, hty, hk⟩ := hno.ty (K := K)
      refine ⟨v, rfl, .inr ⟨ty, hty, hk, fun H8 t s8 et8 => ⟨Nat.zero_le _, fun p8 n8 => ne_none (same_upd n8 _ _ et8) upd_same ⟨false, rfl, iteF ?_⟩⟩⟩⟩
      have hd8 := (hd7.keep s8).new (o := .tup []) n8
      generalize upd H8 p8 (.tup []) = H9 at hd8
      clear hno hty hk hv hd7 ex7 xp el et ed hd6 ex6 hu
      refine ⟨.ref h, rfl, (by decide : 1 ≤ sizeLine), fun l1 nl => ⟨Nat.zero_le _, fun t1 nt => fun d1 nd => ⟨(by decide : 1 ≤ sizeLine), fun u1 nu => ?_⟩⟩⟩
      have g1 := hd8.new (o := .lst [.str (Str.ofString "a")]) nl
      have g2 := g1.new (o := .tup []) nt
      have g3 := g2.new (o := .dK []) nd
      have g4 := g3.new (o := .tup [.str (Str.ofString "a")]) nu
      refine ⟨.ref h, rfl, h, c, rfl, g4, fun H6 u hu ex6 hd6 => ⟨(by decide : 8 ≤ sizeLine), fun p np => ?_⟩⟩
      have el : H6 l1 = some (.lst [.str (Str.ofString "a")]) := ex6 _ _ (hd8.ne nl) (same_upd nu _ _ (same_upd nd _ _ (same_upd nt _ _ upd_same)))
      have et : H6 t1 = some (.tup []) := ex6 _ _ (g1.ne nt) (same_upd nu _ _ (same_upd nd _ _ upd_same))
      have ed : H6 d1 = some (.dK []) := ex6 _ _ (g2.ne nd) (same_upd nu _ _ upd_same)
      have eu : H6 u1 = some (.tup [.str (Str.ofString "a")]) := ex6 _ _ (g3.ne nu) upd_same
      have xp : Ext h H6 (upd H6 p (.lst [.non, .int 5, .ref l1, .ref t1, .bl true, .ref d1, .ref u1, u])) := (Ext.refl h H6).new np
      refine ⟨h, c, _, rfl, hd6.new np, .inl ⟨p, _, rfl, hd6.ne np, upd_same, (show 0 < 8 by decide), (show 8 ≤ 1000 by decide), fun H7 v hv ex7 hd7 => ?_⟩⟩
      have hno : NoS h H7 v := by
        refine NoS.ext (H := H6) ?_ (xp.trans ex7)
        simp only [List.mem_cons, List.not_mem_nil, or_false] at hv
        rcases hv with rfl | rfl | rfl | rfl | rfl | rfl | rfl | rfl
        · exact .inl rfl
        · exact .inr (.inl ⟨_, rfl⟩)
        · exact .inr (.inr (.inr ⟨_, _, rfl, hd8.ne nl, el, .inl ⟨_, rfl⟩⟩))
        · exact .inr (.inr (.inr ⟨_, _, rfl, g1.ne nt, et, .inr (.inl ⟨_, rfl⟩)⟩))
        · exact .inr (.inr (.inl ⟨_, rfl⟩))
        · exact .inr (.inr (.inr ⟨_, _, rfl, g2.ne nd, ed, .inr (.inr ⟨_, rfl⟩)⟩))
        · exact .inr (.inr (.inr ⟨_, _, rfl, g3.ne nu, eu, .inr (.inl ⟨_, rfl⟩)⟩))
        · exact hu
      obtain ⟨ty, hty, hk⟩ := hno.ty (K := K)
      exact ⟨v, ty, rfl, hty, hk, q _⟩
end
end Kb

namespace Kb
open PySem PySem.Spec PyProof.Rows L2
/-- a def as the top has left it -/
def dn_of {K : PySem.W.Frag} {h : Heap} {mg : Str → Option Value} {nm : Str} {st : Stmt} {ps : List Str} {f : Addr} {oc : Value} {od an : Option Addr} {osl : Array (Option Value)} {kV doc pm cdv ct : Value} (X : K.In h) (G : h.Ns mainGlobals mg)
    (fa : PySem.W.nsIn K mainGlobals nm = some (some (.ref f))) (fl : K.lookup f = some ⟨oc, od, .func (PySem.W.fnOf nm nm (defArgs st) (defBody st) (defScope st) .none kV doc pm an cdv ct), osl⟩) (fc : PySem.W.codeIn K cdv nm = true) (fk : PySem.W.keepIn K (.ref f) = true)
    (fb : ∀ (kV doc pm : Value) (an : Option Addr) (cdv ct : Value) (us : List Value), us.length = ps.length → bindArgs (PySem.W.fnOf nm nm (defArgs st) (defBody st) (defScope st) .none kV doc pm an cdv ct) ⟨us, []⟩ = pure (ps.zip us)) : Dn K mg nm st ps :=
  ⟨f, _, fun_mk fl fc fk, PySem.W.mg_of X G fa, (fun_mk fl fc fk).binds fb⟩
theorem cst_of {K : PySem.W.Frag} {h : Heap} {mg : Str → Option Value} {nm : Str} {i : Int} {t : Tok} (X : K.In h) (G : h.Ns mainGlobals mg) (fa : PySem.W.nsIn K mainGlobals nm = some (some (.int i t))) : Cst mg nm (.int i) := ⟨_, PySem.W.mg_of X G fa, ⟨_, rfl⟩⟩
theorem law_end {l : PySem.W.OpenLaw} {w : World} {K : PySem.W.Frag} {h : Heap} {mg : Str → Option Value} {fa f : Addr} (X : K.In h) (G : h.Ns mainGlobals mg) (hfa : mg "law" = some (.ref fa))
    {od an : Option Addr} {osl : Array (Option Value)} {oc kV doc pm cdv ct : Value}
    (a0 : PySem.W.nsIn K mainGlobals "law" = some (some (.ref f))) (l0 : K.lookup f = some ⟨oc, od, .func (PySem.W.fnOf "law" "law" (defArgs slaw) (defBody slaw) (defScope slaw) .none kV doc pm an cdv ct), osl⟩) (c0 : PySem.W.codeIn K cdv "law" = true) (k0 : PySem.W.keepIn K (.ref f) = true)
    (T : Blt mg) (NJ : Σ' N : TxNo K mg, TxIs K mg N.C) (B : TxBad K mg) (cD : Cst mg "DEEPEST" (.int 30)) (cM : Cst mg "MOST_DIGITS" (.int 30)) (cC : Cst mg "CHECKS" (.int 99991))
    (dP_is_int : DnIsInt K mg) (dP_is_plain : DnIsPlain K mg) (dP_is_text : DnIsText K mg) (dP_packed : DnPackedP K mg) (dP_text_of : DnTextOf K mg) (dP_unpacked : DnUnpackedP K mg) (dP_entered : DnEntered K mg) (dP_left : DnLeft K mg) (dP_single : DnSingle K mg) (dP_quoted : DnQuoted K mg) (dP_written : DnWritten K mg) (dP_check : DnCheckP K mg) (dP_number_of : DnNumberOf K mg) (dP_sealed : DnSealedP K mg) (dP_unsealed : DnUnsealedP K mg) (dhand : Dn K mg "_law_hand" shand ["_law_script"]) (ddraw : DnDraw K mg) (dany : DnAny K mg) (dword : DnWord K mg) (dthing : DnThing K mg) (dpacked : DnPackedL K mg) (dcheck : DnCheckL K mg) (dsealed : DnSealedL K mg) (dfirst_wrong : DnFirstWrong K mg) (dread_string : DnReadString K mg) (dread_integer : DnReadInteger K mg) (dread_tuple : DnReadTuple K mg) (dunpacked : DnUnpackedL K mg) (dchanged : DnChanged K mg) (ddeep : DnDeep K mg) (ddue : DnDue K mg) (dis_none : DnIsNone K mg) :
    ∃ fd : FuncData, (∀ (s : Shared) (v : Value), BindsTo s fd ⟨[v], []⟩ [("_law_script", v)]) ∧ ∀ base : Heap, K.In base → base.Ns mainGlobals mg → FnOk l.prog w K mg base CX0 65 fa fd ["_law_script"] (spLaw K) := by
  have e := hfa.symm.trans (PySem.W.mg_of X G a0)
  cases e
  exact ⟨PySem.W.fnOf "law" "law" (defArgs slaw) (defBody slaw) (defScope slaw) .none kV doc pm an cdv ct, fun s v => .of_eq rfl, fun base _ _ => ok_law T NJ.1 B NJ.2 cD cM cC dP_is_int dP_is_plain dP_is_text dP_packed dP_text_of dP_unpacked dP_entered dP_left dP_single dP_quoted dP_written dP_check dP_number_of dP_sealed dP_unsealed dhand ddraw dany dword dthing dpacked dcheck dsealed dfirst_wrong dread_string dread_integer dread_tuple dunpacked dchanged ddeep ddue dis_none
    ⟨_, _, fun_mk l0 c0 k0, PySem.W.mg_of X G a0, (fun_mk l0 c0 k0).binds fun _ _ _ _ _ _ us hl => match us, hl with | [_], _ => rfl⟩⟩
/-- the error with a place -/
def bad_of {K : PySem.W.Frag} {h : Heap} {mg : Str → Option Value} {C f : Addr} {nm q : Str} {N : Addr} {bs bm : List Value} {sn : List Str} {sub : List Value} {ab : Bool} {col : Option Bool} {dd : Option Addr} {m0 m1 m2 m3 m5 : Option Value} {oc : Value} {od an : Option Addr} {osl : Array (Option Value)} {kV doc pm cdv ct : Value} (X : K.In h) (G : h.Ns mainGlobals mg)
    (e1 : PySem.W.nsIn K mainGlobals "BadText" = some (some (.ref C))) (e2 : K.lookup C = some (excClassObj nm q C N bs bm true sn sub ab col dd m0 m1 m2 m3 m5 "ValueError.__new__")) (e3 : PySem.HandSPX.refsVE bm = true)
    (e4 : PySem.W.findIn K (.ref C) "__setattr__" = some (some (.builtin "object.__setattr__"))) (e5 : PySem.W.subIn K (.ref C) (.type "BaseException") = some true) (e6 : PySem.W.typeIn K (.ref C) = some (.type "type")) (e7 : PySem.W.keepIn K (.ref C) = true)
    (e8 : PySem.W.findIn K (.ref C) "__init__" = some (some (.ref f))) (e9 : PySem.W.typeIn K (.ref f) = some (.type "function"))
    (e10 : K.lookup f = some ⟨oc, od, .func (PySem.W.fnOf "__init__" "BadText.__init__" (defArgs sBad) (defBody sBad) (defScope sBad) .none kV doc pm an cdv ct), osl⟩) (e11 : PySem.W.codeIn K cdv "BadText.__init__" = true) (e12 : PySem.W.keepIn K (.ref f) = true)
    (e13 : PySem.W.findIn K (.ref C) "place" = some none) (e14 : PySem.W.exmOne K (.ref C) (.ref C) = some true) : TxBad K mg :=
  { C := C, fI := f, fdI := _, oex := ⟨⟨nm, q, N, bs, bm, sn, sub, ab, col, dd, m0, m1, m2, m3, m5, e2, e3⟩, e4, e5, e6, e7⟩, iC := e8, tI := e9, F := ⟨⟨_, _, _, _, _, _, _, _, _, rfl, e10, e11⟩, e12⟩,
    b := Fun.binds (x := "__init__") (qual := "BadText.__init__") (st := sBad) ⟨⟨_, _, _, _, _, _, _, _, _, rfl, e10, e11⟩, e12⟩ (fun _ _ _ _ _ _ us hl => match us, hl with | [_, _], _ => rfl), gC := PySem.W.mg_of X G e1, noP := e13, te := e14 }
/-- the error of no text, and what isinstance asks of it -/
def none_of {K : PySem.W.Frag} {h : Heap} {mg : Str → Option Value} {C KE : Addr} (X : K.In h) (G : h.Ns mainGlobals mg) (n1 : PySem.W.nsIn K mainGlobals "NoText" = some (some (.ref C))) (n2 : PySem.W.excIn K C [.type "ValueError", .type "Exception", .type "BaseException", .type "object"] "ValueError.__new__" = true)
    (n3 : PySem.W.keepIn K (.ref C) = true) (n4 : PySem.W.subIn K (.ref C) (.type "BaseException") = some true) (n5 : PySem.W.typeIn K (.ref C) = some (.type "type")) (n6 : PySem.W.exmOne K (.ref C) (.ref C) = some true)
    (i1 : PySem.W.findIn K (.ref C) "__getattribute__" = some (some (.builtin "BaseException.__getattribute__"))) (i2 : PySem.W.findIn K (.ref C) "__getattr__" = some none) (i3 : PySem.W.hasDictIn K C = true) (i4 : PySem.W.findIn K (.ref C) "__class__" = some (some (.builtin "object.__class__")))
    (i5 : PySem.W.specialIn K (.builtin "object.__class__") "__get__" = some (some (.builtin "getset_descriptor.__get__"))) (i6 : PySem.W.takesIn K (.builtin "object.__class__") = some true) (i7 : PySem.W.mroIn K C (.type "object") = some true)
    (i8 : PySem.W.nsIn K mainGlobals "KnownError" = some (some (.ref KE))) (i9 : PySem.W.kitOne K (.ref C) (.ref KE) = some true) : Σ' N : TxNo K mg, TxIs K mg N.C :=
  ⟨⟨C, PySem.W.mg_of X G n1, n2, n3, n4, n5, n6⟩, ⟨⟨i1, i2, n4, i3, i4, i5, i6, i7⟩, KE, PySem.W.mg_of X G i8, i9⟩⟩
end Kb
open PySem PySem.W PyProof.Rows
theorem PySem.Challenge.cw_knownends_k29_whole_checks_and_sealed_te_holds : PySem.Challenge.rw_knownends_k29_whole_checks_and_sealed_te.Holds := by
  w_on; o_law; k_head; (case hw => w_witness2)
  k_fill
  refine L2.walk_of (l := PySem.Challenge.rw_knownends_k29_whole_checks_and_sealed_te) (n := 63) (k := 65) (x := "_law_script") (CX := fun _ => L2.CX0) (sp := fun w => Kb.spLaw _) rfl (by decide) rfl ⟨rfl, by decide, by decide⟩ (fun w h Y => PySem.W.kIn_of Y) ?F (fun _ _ a ns hl _ hS => ⟨a, ns, rfl, hS, hl, fun _ => rfl⟩) (fun _ _ _ _ _ h => h)
  case F =>
    intro w mg fa h KX G hmg
    refine' Kb.law_end KX G hmg ?a0 ?l0 ?c0 ?k0 ?T ?NJ ?B ?cD ?cM ?cC ?dP_is_int ?dP_is_plain ?dP_is_text ?dP_packed ?dP_text_of ?dP_unpacked ?dP_entered ?dP_left ?dP_single ?dP_quoted ?dP_written ?dP_check ?dP_number_of ?dP_sealed ?dP_unsealed ?dhand ?ddraw ?dany ?dword ?dthing ?dpacked ?dcheck ?dsealed ?dfirst_wrong ?dread_string ?dread_integer ?dread_tuple ?dunpacked ?dchanged ?ddeep ?ddue ?dis_none
    (case a0 => k_is); (case l0 => k_is); (case c0 => k_is); (case k0 => k_is)
    (case T => exact ⟨PySem.W.mg_none_of KX G (by k_is), PySem.W.mg_none_of KX G (by k_is), PySem.W.mg_none_of KX G (by k_is), PySem.W.mg_none_of KX G (by k_is), PySem.W.mg_none_of KX G (by k_is), PySem.W.mg_none_of KX G (by k_is), PySem.W.mg_none_of KX G (by k_is), PySem.W.mg_none_of KX G (by k_is), PySem.W.mg_none_of KX G (by k_is), PySem.W.mg_none_of KX G (by k_is), PySem.W.mg_none_of KX G (by k_is)⟩)
    (case NJ =>
      refine' Kb.none_of KX G ?n1 ?n2 ?n3 ?n4 ?n5 ?n6 ?i1 ?i2 ?i3 ?i4 ?i5 ?i6 ?i7 ?i8 ?i9
      (case n1 => k_is); (case n2 => first | k_exc | kernel_rfl); (case n3 => k_is); (case n4 => k_is); (case n5 => k_is); (case n6 => first | rfl | k_is); (case i1 => k_is); (case i2 => k_is); (case i3 => k_is); (case i4 => k_is); (case i5 => k_is); (case i6 => k_is); (case i7 => k_is); (case i8 => k_is); (case i9 => first | rfl | k_is))
    (case B =>
      refine' Kb.bad_of KX G ?e1 ?e2 ?e3 ?e4 ?e5 ?e6 ?e7 ?e8 ?e9 ?e10 ?e11 ?e12 ?e13 ?e14
      (case e1 => k_is); (case e2 => k_is); (case e3 => first | rfl | decide +kernel); (case e4 => k_is); (case e5 => k_is); (case e6 => k_is); (case e7 => k_is); (case e8 => k_is); (case e9 => k_is); (case e10 => k_is); (case e11 => k_is); (case e12 => k_is); (case e13 => k_is)
      (case e14 => first | rfl | k_is))
    (case cD => refine' Kb.cst_of KX G ?a_cD; (case a_cD => k_is))
    (case cM => refine' Kb.cst_of KX G ?a_cM; (case a_cM => k_is))
    (case cC => refine' Kb.cst_of KX G ?a_cC; (case a_cC => k_is))
    (case dP_is_int => refine' Kb.dn_of KX G ?a_dP_is_int ?l_dP_is_int ?c_dP_is_int ?k_dP_is_int ?b_dP_is_int; (case a_dP_is_int => k_is); (case l_dP_is_int => k_is); (case c_dP_is_int => k_is); (case k_dP_is_int => k_is); (case b_dP_is_int => exact fun _ _ _ _ _ _ us hl => match us, hl with | [_], _ => rfl))
    (case dP_is_plain => refine' Kb.dn_of KX G ?a_dP_is_plain ?l_dP_is_plain ?c_dP_is_plain ?k_dP_is_plain ?b_dP_is_plain; (case a_dP_is_plain => k_is); (case l_dP_is_plain => k_is); (case c_dP_is_plain => k_is); (case k_dP_is_plain => k_is); (case b_dP_is_plain => exact fun _ _ _ _ _ _ us hl => match us, hl with | [_], _ => rfl))
    (case dP_is_text => refine' Kb.dn_of KX G ?a_dP_is_text ?l_dP_is_text ?c_dP_is_text ?k_dP_is_text ?b_dP_is_text; (case a_dP_is_text => k_is); (case l_dP_is_text => k_is); (case c_dP_is_text => k_is); (case k_dP_is_text => k_is); (case b_dP_is_text => exact fun _ _ _ _ _ _ us hl => match us, hl with | [_], _ => rfl))
    (case dP_packed => refine' Kb.dn_of KX G ?a_dP_packed ?l_dP_packed ?c_dP_packed ?k_dP_packed ?b_dP_packed; (case a_dP_packed => k_is); (case l_dP_packed => k_is); (case c_dP_packed => k_is); (case k_dP_packed => k_is); (case b_dP_packed => exact fun _ _ _ _ _ _ us hl => match us, hl with | [_], _ => rfl))
    (case dP_text_of => refine' Kb.dn_of KX G ?a_dP_text_of ?l_dP_text_of ?c_dP_text_of ?k_dP_text_of ?b_dP_text_of; (case a_dP_text_of => k_is); (case l_dP_text_of => k_is); (case c_dP_text_of => k_is); (case k_dP_text_of => k_is); (case b_dP_text_of => exact fun _ _ _ _ _ _ us hl => match us, hl with | [_, _], _ => rfl))
    (case dP_unpacked => refine' Kb.dn_of KX G ?a_dP_unpacked ?l_dP_unpacked ?c_dP_unpacked ?k_dP_unpacked ?b_dP_unpacked; (case a_dP_unpacked => k_is); (case l_dP_unpacked => k_is); (case c_dP_unpacked => k_is); (case k_dP_unpacked => k_is); (case b_dP_unpacked => exact fun _ _ _ _ _ _ us hl => match us, hl with | [_], _ => rfl))
    (case dP_entered => refine' Kb.dn_of KX G ?a_dP_entered ?l_dP_entered ?c_dP_entered ?k_dP_entered ?b_dP_entered; (case a_dP_entered => k_is); (case l_dP_entered => k_is); (case c_dP_entered => k_is); (case k_dP_entered => k_is); (case b_dP_entered => exact fun _ _ _ _ _ _ us hl => match us, hl with | [_, _, _], _ => rfl))
    (case dP_left => refine' Kb.dn_of KX G ?a_dP_left ?l_dP_left ?c_dP_left ?k_dP_left ?b_dP_left; (case a_dP_left => k_is); (case l_dP_left => k_is); (case c_dP_left => k_is); (case k_dP_left => k_is); (case b_dP_left => exact fun _ _ _ _ _ _ us hl => match us, hl with | [_, _, _], _ => rfl))
    (case dP_single => refine' Kb.dn_of KX G ?a_dP_single ?l_dP_single ?c_dP_single ?k_dP_single ?b_dP_single; (case a_dP_single => k_is); (case l_dP_single => k_is); (case c_dP_single => k_is); (case k_dP_single => k_is); (case b_dP_single => exact fun _ _ _ _ _ _ us hl => match us, hl with | [_, _], _ => rfl))
    (case dP_quoted => refine' Kb.dn_of KX G ?a_dP_quoted ?l_dP_quoted ?c_dP_quoted ?k_dP_quoted ?b_dP_quoted; (case a_dP_quoted => k_is); (case l_dP_quoted => k_is); (case c_dP_quoted => k_is); (case k_dP_quoted => k_is); (case b_dP_quoted => exact fun _ _ _ _ _ _ us hl => match us, hl with | [_, _], _ => rfl))
    (case dP_written => refine' Kb.dn_of KX G ?a_dP_written ?l_dP_written ?c_dP_written ?k_dP_written ?b_dP_written; (case a_dP_written => k_is); (case l_dP_written => k_is); (case c_dP_written => k_is); (case k_dP_written => k_is); (case b_dP_written => exact fun _ _ _ _ _ _ us hl => match us, hl with | [_, _], _ => rfl))
    (case dP_check => refine' ⟨Kb.dn_of KX G ?a_dP_check ?l_dP_check ?c_dP_check ?k_dP_check ?b_dP_check, Kb.dn_of KX G ?a_cb ?l_cb ?c_cb ?k_cb ?b_cb⟩; (case a_dP_check => k_is); (case l_dP_check => k_is); (case c_dP_check => k_is); (case k_dP_check => k_is); (case b_dP_check => exact fun _ _ _ _ _ _ us hl => match us, hl with | [_], _ => rfl); (case a_cb => k_is); (case l_cb => k_is); (case c_cb => k_is); (case k_cb => k_is); (case b_cb => exact fun _ _ _ _ _ _ us hl => match us, hl with | [_, _, _], _ => rfl))
    (case dP_number_of => refine' Kb.dn_of KX G ?a_dP_number_of ?l_dP_number_of ?c_dP_number_of ?k_dP_number_of ?b_dP_number_of; (case a_dP_number_of => k_is); (case l_dP_number_of => k_is); (case c_dP_number_of => k_is); (case k_dP_number_of => k_is); (case b_dP_number_of => exact fun _ _ _ _ _ _ us hl => match us, hl with | [_], _ => rfl))
    (case dP_sealed => refine' Kb.dn_of KX G ?a_dP_sealed ?l_dP_sealed ?c_dP_sealed ?k_dP_sealed ?b_dP_sealed; (case a_dP_sealed => k_is); (case l_dP_sealed => k_is); (case c_dP_sealed => k_is); (case k_dP_sealed => k_is); (case b_dP_sealed => exact fun _ _ _ _ _ _ us hl => match us, hl with | [_], _ => rfl))
    (case dP_unsealed => refine' Kb.dn_of KX G ?a_dP_unsealed ?l_dP_unsealed ?c_dP_unsealed ?k_dP_unsealed ?b_dP_unsealed; (case a_dP_unsealed => k_is); (case l_dP_unsealed => k_is); (case c_dP_unsealed => k_is); (case k_dP_unsealed => k_is); (case b_dP_unsealed => exact fun _ _ _ _ _ _ us hl => match us, hl with | [_], _ => rfl))
    (case dhand => refine' Kb.dn_of KX G ?a_dhand ?l_dhand ?c_dhand ?k_dhand ?b_dhand; (case a_dhand => k_is); (case l_dhand => k_is); (case c_dhand => k_is); (case k_dhand => k_is); (case b_dhand => exact fun _ _ _ _ _ _ us hl => match us, hl with | [_], _ => rfl))
    (case ddraw => refine' Kb.dn_of KX G ?a_ddraw ?l_ddraw ?c_ddraw ?k_ddraw ?b_ddraw; (case a_ddraw => k_is); (case l_ddraw => k_is); (case c_ddraw => k_is); (case k_ddraw => k_is); (case b_ddraw => exact fun _ _ _ _ _ _ us hl => match us, hl with | [_, _], _ => rfl))
    (case dany => refine' Kb.dn_of KX G ?a_dany ?l_dany ?c_dany ?k_dany ?b_dany; (case a_dany => k_is); (case l_dany => k_is); (case c_dany => k_is); (case k_dany => k_is); (case b_dany => exact fun _ _ _ _ _ _ us hl => match us, hl with | [_, _], _ => rfl))
    (case dword => refine' Kb.dn_of KX G ?a_dword ?l_dword ?c_dword ?k_dword ?b_dword; (case a_dword => k_is); (case l_dword => k_is); (case c_dword => k_is); (case k_dword => k_is); (case b_dword => exact fun _ _ _ _ _ _ us hl => match us, hl with | [_], _ => rfl))
    (case dthing => refine' Kb.dn_of KX G ?a_dthing ?l_dthing ?c_dthing ?k_dthing ?b_dthing; (case a_dthing => k_is); (case l_dthing => k_is); (case c_dthing => k_is); (case k_dthing => k_is); (case b_dthing => exact fun _ _ _ _ _ _ us hl => match us, hl with | [_, _], _ => rfl))
    (case dpacked => refine' Kb.dn_of KX G ?a_dpacked ?l_dpacked ?c_dpacked ?k_dpacked ?b_dpacked; (case a_dpacked => k_is); (case l_dpacked => k_is); (case c_dpacked => k_is); (case k_dpacked => k_is); (case b_dpacked => exact fun _ _ _ _ _ _ us hl => match us, hl with | [_], _ => rfl))
    (case dcheck => refine' Kb.dn_of KX G ?a_dcheck ?l_dcheck ?c_dcheck ?k_dcheck ?b_dcheck; (case a_dcheck => k_is); (case l_dcheck => k_is); (case c_dcheck => k_is); (case k_dcheck => k_is); (case b_dcheck => exact fun _ _ _ _ _ _ us hl => match us, hl with | [_], _ => rfl))
    (case dsealed => refine' Kb.dn_of KX G ?a_dsealed ?l_dsealed ?c_dsealed ?k_dsealed ?b_dsealed; (case a_dsealed => k_is); (case l_dsealed => k_is); (case c_dsealed => k_is); (case k_dsealed => k_is); (case b_dsealed => exact fun _ _ _ _ _ _ us hl => match us, hl with | [_], _ => rfl))
    (case dfirst_wrong => refine' Kb.dn_of KX G ?a_dfirst_wrong ?l_dfirst_wrong ?c_dfirst_wrong ?k_dfirst_wrong ?b_dfirst_wrong; (case a_dfirst_wrong => k_is); (case l_dfirst_wrong => k_is); (case c_dfirst_wrong => k_is); (case k_dfirst_wrong => k_is); (case b_dfirst_wrong => exact fun _ _ _ _ _ _ us hl => match us, hl with | [_, _, _], _ => rfl))
    (case dread_string => refine' Kb.dn_of KX G ?a_dread_string ?l_dread_string ?c_dread_string ?k_dread_string ?b_dread_string; (case a_dread_string => k_is); (case l_dread_string => k_is); (case c_dread_string => k_is); (case k_dread_string => k_is); (case b_dread_string => exact fun _ _ _ _ _ _ us hl => match us, hl with | [_, _], _ => rfl))
    (case dread_integer => refine' Kb.dn_of KX G ?a_dread_integer ?l_dread_integer ?c_dread_integer ?k_dread_integer ?b_dread_integer; (case a_dread_integer => k_is); (case l_dread_integer => k_is); (case c_dread_integer => k_is); (case k_dread_integer => k_is); (case b_dread_integer => exact fun _ _ _ _ _ _ us hl => match us, hl with | [_, _], _ => rfl))
    (case dread_tuple => refine' Kb.dn_of KX G ?a_dread_tuple ?l_dread_tuple ?c_dread_tuple ?k_dread_tuple ?b_dread_tuple; (case a_dread_tuple => k_is); (case l_dread_tuple => k_is); (case c_dread_tuple => k_is); (case k_dread_tuple => k_is); (case b_dread_tuple => exact fun _ _ _ _ _ _ us hl => match us, hl with | [_, _, _], _ => rfl))
    (case dunpacked => refine' Kb.dn_of KX G ?a_dunpacked ?l_dunpacked ?c_dunpacked ?k_dunpacked ?b_dunpacked; (case a_dunpacked => k_is); (case l_dunpacked => k_is); (case c_dunpacked => k_is); (case k_dunpacked => k_is); (case b_dunpacked => exact fun _ _ _ _ _ _ us hl => match us, hl with | [_], _ => rfl))
    (case dchanged => refine' Kb.dn_of KX G ?a_dchanged ?l_dchanged ?c_dchanged ?k_dchanged ?b_dchanged; (case a_dchanged => k_is); (case l_dchanged => k_is); (case c_dchanged => k_is); (case k_dchanged => k_is); (case b_dchanged => exact fun _ _ _ _ _ _ us hl => match us, hl with | [_, _], _ => rfl))
    (case ddeep => refine' Kb.dn_of KX G ?a_ddeep ?l_ddeep ?c_ddeep ?k_ddeep ?b_ddeep; (case a_ddeep => k_is); (case l_ddeep => k_is); (case c_ddeep => k_is); (case k_ddeep => k_is); (case b_ddeep => exact fun _ _ _ _ _ _ us hl => match us, hl with | [_], _ => rfl))
    (case ddue => refine' Kb.dn_of KX G ?a_ddue ?l_ddue ?c_ddue ?k_ddue ?b_ddue; (case a_ddue => k_is); (case l_ddue => k_is); (case c_ddue => k_is); (case k_ddue => k_is); (case b_ddue => exact fun _ _ _ _ _ _ us hl => match us, hl with | [_], _ => rfl))
    (case dis_none => refine' Kb.dn_of KX G ?a_dis_none ?l_dis_none ?c_dis_none ?k_dis_none ?b_dis_none; (case a_dis_none => k_is); (case l_dis_none => k_is); (case c_dis_none => k_is); (case k_dis_none => k_is); (case b_dis_none => exact fun _ _ _ _ _ _ us hl => match us, hl with | [_], _ => rfl))

