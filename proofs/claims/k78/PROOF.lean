import PyProof.Rows.All
import Wide.All
import OpenK.AllK
import Wide.FinOn
import HandS.ForMost
import HandS.Words
import HandS.WordsExc
import HandS.Defaults
import HandS.Exc
import HandS.ExcOwn
import HandS.ExcValue
import HandS.ExcInit
import HandS.FStr
import HandS.IsInst
import KE.KExcIs
import PySem.Challenge.RW_returnsdue_k78_errors_made
set_option Elab.async false
set_option linter.all false
set_option maxRecDepth 100000
set_option maxHeartbeats 4000000
namespace Dr
open PySem PySem.Spec PyProof.Rows L2
def top (i : Nat) : Stmt := PySem.Challenge.pw_returnsdue_k78_errors_made.main.body.getD i (.Pass ⟨0, 0, 0, 0⟩)
abbrev sBegun : Stmt := top 20
abbrev sBlended : Stmt := top 21
abbrev sDraw : Stmt := top 22
abbrev sPick : Stmt := top 23
abbrev sLaw : Stmt := top 24
def kGreat : Key := .inr (Str.ofString "great")
def kCells : Key := .inr (Str.ofString "cells")
def kRest : Key := .inr (Str.ofString "rest")
def kTurn : Key := .inr (Str.ofString "turn")
def stD (g c : Addr) (rest turn : Int) : HO := .dK [(kGreat, .ref g), (kCells, .ref c), (kRest, .int rest), (kTurn, .int turn)]
def ghAt (H : Hp) (a : Addr) : Prop := ∃ ns : List Int, (∀ x ∈ ns, 0 ≤ x) ∧ H a = some (.lst (ns.map V.int))
structure DrwAt (H : Hp) (a g c : Addr) (B : Int) : Prop where
  st : ∃ rest turn : Int, 0 ≤ rest ∧ 0 ≤ turn ∧ turn ≤ B ∧ H a = some (stD g c rest turn)
  g : ghAt H g
  c : ghAt H c
theorem sameU {H H' : Hp} {D : Addr} {o : HO} (hD : H D = none) (e : Same H H') : Same H (upd H' D o) := fun b x h => by
  rw [upd_ne (ne_of_none h hD)]
  exact e b x h
theorem at_int {ns : List Int} {i : Nat} {x : V} (h : (ns.map V.int)[i]? = some x) : ∃ z, x = V.int z ∧ ns[i]? = some z := by
  rw [List.getElem?_map] at h
  cases e : ns[i]? with
  | none => rw [e] at h; cases h
  | some z => rw [e] at h; exact ⟨z, (Option.some.inj h).symm, rfl⟩
theorem abs0 (z : Int) : 0 ≤ (if z < 0 then -z else z) := by by_cases c : z < 0 <;> simp only [c, if_true, if_false] <;> omega
theorem ns_add {gs : List Int} {y : Int} (h : ∀ x ∈ gs, 0 ≤ x) (hy : 0 ≤ y) : ∀ x ∈ gs ++ [y], 0 ≤ x := fun x hx => by
  rcases List.mem_append.mp hx with h1 | h1
  · exact h x h1
  · rw [List.mem_singleton.mp h1]
    exact hy
theorem map_add (gs : List Int) (y : Int) : gs.map V.int ++ [V.int y] = (gs ++ [y]).map V.int := by simp
/-! ### _law_begun -/
abbrev NB : List Str := ["script", "great", "cell"]
def spBegun (K : PySem.W.Frag) : Sp := fun vs H Q _ => ∃ (s : Addr) (ns : List Int), vs = [.ref s] ∧ SqL K H s (ns.map V.int) ∧ ns.length ≤ 1000 ∧
  ∀ a g c H', H a = none → Same H H' → DrwAt H' a g c 0 → Q (.ref a) H'
theorem scB : FnScope NB ["script"] (defScope sBegun) := ⟨rfl, rfl, rfl, by decide +kernel, rfl, by decide +kernel, by decide +kernel⟩
section
variable {P : Program} {w : World} {K : PySem.W.Frag} {mg : Str → Option Value} {base : Heap}
theorem ok_begun {f : Addr} {fd : FuncData} (F : Fun K "_law_begun" "_law_begun" sBegun f fd) (gA : mg "abs" = none) : FnOk P w K mg base CX0 1 f fd ["script"] (spBegun K) := by
  refine F.ok scB (fun vs H Q E h => ?_) (fun cdv A outer s H vs Q E hr h => ⟨_, PSs.nox (
    pss_cons (ps_setLc (i := 1) (own := [("cell", 2)]) (g := gName 2) rfl scB.nd rfl rfl (sw_true rfl rfl rfl (by decide +kernel)) (pi_list (pv 0)) (blkOk_by (N := NB) (sc := defScope sBegun) (by decide +kernel))
        (fun _ _ _ _ _ => pg_name (i := 2) scB.nd rfl (Or.inl rfl)) (fun _ _ _ _ _ => pts_one (pt_cmpR op_ge (pe_callB call_abs rfl gA (by decide +kernel) (pa_cons (pv 2) pa_nil)) (pe_op op_pow pe_int pe_int) (nomark _)))
        (fun _ _ _ _ _ => pe_op op_sub (pe_callB call_abs rfl gA (by decide +kernel) (pa_cons (pv 2) pa_nil)) (pe_op op_pow pe_int pe_int)))
      (pss_one (ps_ret (pe_disp (pps_cons pe_str (pv 1) (pps_cons pe_str (pe_lc (own := [("cell", 2)]) (g := gName 2) (tt := tYes) rfl scB.nd (pi_list (pv 0)) (blkOk_by (N := NB) (sc := defScope sBegun) (by decide +kernel))
        (fun _ _ _ _ _ => pg_name (i := 2) scB.nd rfl (Or.inl rfl)) (fun _ _ _ _ _ => pts_nil) (fun _ _ _ _ _ => pe_callB call_abs rfl gA (by decide +kernel) (pa_cons (pv 2) pa_nil)))
        (pps_cons pe_str pe_int (pps_cons pe_str pe_int pps_nil)))) rfl rfl nofun (by decide))))), ?_⟩)
  · obtain ⟨s, ns, rfl, _⟩ := h
    rfl
  · obtain ⟨s, ns, rfl, hS, hn, q⟩ := h
    refine ⟨_, rfl, s, rfl, ⟨_, hS⟩, fun D hD => lc_list (xs := ns.map V.int) (fun i H' => Same H H' ∧ ∃ gs : List Int, (∀ x ∈ gs, 0 ≤ x) ∧ gs.length ≤ i ∧ H' D = some (.lst (gs.map V.int))) ⟨sameU hD (Same.refl H), [], nofun, Nat.zero_le _, upd_same⟩ (fun i H' _ h => h.1.seq hS) ?_ ?_⟩
    · rintro i x H' hi ⟨s5, gs, g0, gl, hD'⟩
      obtain ⟨z, rfl, hz⟩ := at_int hi
      have hl := (List.getElem?_eq_some_iff.mp hz).1
      refine ⟨rfl, ?_⟩
      refine ⟨_, rfl, z, rfl, _, _, rfl, rfl, ⟨by decide, by decide, by decide⟩, _, _, rfl, rfl, _, rfl, ?_⟩
      refine ite2 (fun c => ?_) (fun _ => ⟨s5, gs, g0, Nat.le_succ_of_le gl, hD'⟩)
      have c := of_decide_eq_true c
      refine ⟨_, rfl, z, rfl, _, _, rfl, rfl, ⟨by decide, by decide, by decide⟩, _, _, rfl, rfl, _, hD', ?_, ?_, gs ++ [(if z < 0 then -z else z) - (10 : Int) ^ (18 : Int).toNat], ns_add g0 ?_, ?_, ?_⟩
      · rw [List.length_map]
        exact Nat.lt_of_le_of_lt (Nat.le_trans gl (Nat.le_of_lt (Nat.lt_of_lt_of_le hl hn))) (by decide)
      · exact sameU hD s5
      · exact Int.sub_nonneg_of_le c
      · rw [List.length_append]
        exact Nat.succ_le_succ gl
      · rw [upd_same, map_add]
    · rintro H1 ⟨s5, gs, g0, gl, hD'⟩
      intro p hp
      have hp0 : H p = none := s5.free hp
      have pD : D ≠ p := ne_of_none hD' hp
      have s6 : Same H (upd H1 p (.dK [])) := sameU hp0 s5
      refine ⟨_, rfl, _, rfl, s, rfl, ⟨_, s6.seq hS⟩, fun D2 hD2 => lc_list (xs := ns.map V.int) (fun i H' => Same (upd H1 p (.dK [])) H' ∧ ∃ cs : List Int, (∀ x ∈ cs, 0 ≤ x) ∧ cs.length = i ∧ H' D2 = some (.lst (cs.map V.int))) ⟨sameU hD2 (Same.refl _), [], nofun, rfl, upd_same⟩ (fun i H' _ h => (s6.trans h.1).seq hS) ?_ ?_⟩
      · rintro i x H' hi ⟨s7, cs, c0, cl, hD3⟩
        obtain ⟨z, rfl, hz⟩ := at_int hi
        have hl := (List.getElem?_eq_some_iff.mp hz).1
        refine ⟨rfl, ?_⟩
        unfold tYes
        refine iteT ?_
        refine ⟨_, rfl, z, rfl, _, hD3, ?_, sameU hD2 s7, cs ++ [if z < 0 then -z else z], ns_add c0 (abs0 z), ?_, ?_⟩
        · rw [List.length_map, cl]
          exact Nat.lt_of_lt_of_le hl (Nat.le_trans hn (by decide))
        · rw [List.length_append, cl]
          rfl
        · rw [upd_same, map_add]
      · rintro H2 ⟨s7, cs, c0, cl, hD3⟩
        have hp2 : H2 p = some (.dK []) := s7 p _ upd_same
        refine ⟨hp2, [(kGreat, .ref D), (kCells, .ref D2), (kRest, .int 0), (kTurn, .int 0)], rfl, (by decide : 4 ≤ 15), q p D D2 _ hp0 (sameU hp0 (s6.trans s7)) ⟨⟨0, 0, Int.le_refl 0, Int.le_refl 0, Int.le_refl 0, ?_⟩, ⟨gs, g0, ?_⟩, ⟨cs, c0, ?_⟩⟩⟩
        · rw [upd_same]
          rfl
        · rw [upd_ne pD]
          refine s7 D _ ?_
          rw [upd_ne pD]
          exact hD'
        · rw [upd_ne (Ne.symm (ne_of_none upd_same hD2))]
          exact hD3
end
end Dr

namespace Dr
open PySem PySem.Spec PyProof.Rows L2
section
variable {H : Hp} {a g c : Addr} {rest turn : Int}
theorem gGreat (h : H a = some (stD g c rest turn)) : DGet H a (.str (Str.ofString "great")) (some (.ref g)) := by
  have e := DGet.k (k := kGreat) h
  rw [show valV [(kGreat, V.ref g), (kCells, .ref c), (kRest, .int rest), (kTurn, .int turn)] kGreat = some (.ref g) from rfl] at e
  exact e
theorem gCells (h : H a = some (stD g c rest turn)) : DGet H a (.str (Str.ofString "cells")) (some (.ref c)) := by
  have e := DGet.k (k := kCells) h
  rw [show valV [(kGreat, V.ref g), (kCells, .ref c), (kRest, .int rest), (kTurn, .int turn)] kCells = some (.ref c) from rfl] at e
  exact e
theorem gRest (h : H a = some (stD g c rest turn)) : DGet H a (.str (Str.ofString "rest")) (some (.int rest)) := by
  have e := DGet.k (k := kRest) h
  rw [show valV [(kGreat, V.ref g), (kCells, .ref c), (kRest, .int rest), (kTurn, .int turn)] kRest = some (.int rest) from rfl] at e
  exact e
theorem gTurn (h : H a = some (stD g c rest turn)) : DGet H a (.str (Str.ofString "turn")) (some (.int turn)) := by
  have e := DGet.k (k := kTurn) h
  rw [show valV [(kGreat, V.ref g), (kCells, .ref c), (kRest, .int rest), (kTurn, .int turn)] kTurn = some (.int turn) from rfl] at e
  exact e
theorem pTurn (h : H a = some (stD g c rest turn)) (v : Int) : DPut H a (.str (Str.ofString "turn")) (.int v) (upd H a (stD g c rest v)) := by
  have e := DPut.k (k := kTurn) (v := .int v) h (by show 4 < sizeLine; decide)
  rw [show putK [(kGreat, V.ref g), (kCells, .ref c), (kRest, .int rest), (kTurn, .int turn)] kTurn (.int v) = [(kGreat, V.ref g), (kCells, .ref c), (kRest, .int rest), (kTurn, .int v)] from rfl] at e
  exact e
theorem pRest (h : H a = some (stD g c rest turn)) (v : Int) : DPut H a (.str (Str.ofString "rest")) (.int v) (upd H a (stD g c v turn)) := by
  have e := DPut.k (k := kRest) (v := .int v) h (by show 4 < sizeLine; decide)
  rw [show putK [(kGreat, V.ref g), (kCells, .ref c), (kRest, .int rest), (kTurn, .int turn)] kRest (.int v) = [(kGreat, V.ref g), (kCells, .ref c), (kRest, .int v), (kTurn, .int turn)] from rfl] at e
  exact e
end
/-! ### _law_blended -/
abbrev NL : List Str := ["state", "turn", "found", "prime", "blend", "cell"]
def spBlended : Sp := fun vs H Q _ => ∃ (a g c : Addr) (rest turn : Int), vs = [.ref a] ∧ H a = some (stD g c rest turn) ∧ 0 ≤ turn ∧ turn ≤ 1000000000000 ∧ ghAt H c ∧
  ∀ n H', 0 ≤ n → H' a = some (stD g c rest (turn + 1)) → (∀ b o, b ≠ a → H b = some o → H' b = some o) → Q (.int n) H'
theorem scL : FnScope NL ["state"] (defScope sBlended) := ⟨rfl, rfl, rfl, by decide +kernel, rfl, by decide +kernel, by decide +kernel⟩
section
variable {P : Program} {w : World} {K : PySem.W.Frag} {mg : Str → Option Value} {base : Heap}
theorem ok_blended {f : Addr} {fd : FuncData} (F : Fun K "_law_blended" "_law_blended" sBlended f fd) (gI : mg "int" = none) : FnOk P w K mg base CX0 1 f fd ["state"] spBlended := by
  refine F.ok scL (fun vs H Q E h => ?_) (fun cdv A outer s H vs Q E hr h => ?_)
  · obtain ⟨a, g, c, rest, turn, rfl, _⟩ := h
    rfl
  have hu := hu_of hr
  refine ⟨_, PSs.nox (
    pss_cons (ps_par (i := 1) (j := 2) rfl scL.nd rfl rfl (by decide) rfl rfl (pa_cons (pe_op op_add (pe_dget hu (pv 0) pe_str (fun _ _ => rfl)) pe_int) (pa_cons pe_int pa_nil)) (by first | rfl | with_unfolding_all rfl))
    (pss_cons (ps_dput hu (pv 0) pe_str (pv 1) rfl)
    (pss_cons (ps_for PassesOwn.never rfl (pi_list (pe_lst (pa_cons pe_int (pa_cons pe_int (pa_cons pe_int pa_nil))))) (pg_name (i := 3) scL.nd rfl (Or.inl rfl))
      (pss_cons (ps_set (i := 4) scL.nd rfl (Or.inl rfl) (pe_op op_add (pe_op op_mul pe_int (pv 1)) (pe_op op_fdivN (pv 3) pe_int)))
      (pss_cons (ps_for PassesOwn.never rfl (pi_list (pe_dget hu (pv 0) pe_str (fun _ _ => rfl))) (pg_name (i := 5) scL.nd rfl (Or.inl rfl))
        (pss_one (ps_set (i := 4) scL.nd rfl (Or.inl rfl) (pe_op op_modN (pe_callTy call_int1 rfl gI PyProof.Rows.boot_int (pa_cons (pe_op op_add (pe_op op_add (pe_op op_mul (pv 4) pe_int) (pv 5)) (pv 1)) pa_nil)) (pv 3)))))
      (pss_one (ps_set (i := 2) scL.nd rfl (Or.inl rfl) (pe_op op_add (pe_op op_mul (pv 2) pe_int) (pe_op op_modN (pe_callTy call_int1 rfl gI PyProof.Rows.boot_int (pa_cons (pe_op op_pow (pv 4) pe_int) pa_nil)) (pv 3))))))))
    (pss_one (ps_ret (pv 2)))))), ?_⟩
  obtain ⟨a, g, c, rest, turn, rfl, ha, t0, t1, ⟨cs, c0, hc⟩, q⟩ := h
  have hca : c ≠ a := ne_of hc ha nofun
  refine ⟨_, rfl, a, _, rfl, gTurn ha, _, _, rfl, rfl, _, _, rfl, ?_⟩
  refine ⟨_, rfl, _, rfl, a, _, rfl, pTurn ha (turn + 1), ?_⟩
  refine ⟨by show 3 ≤ sizeLine; decide, fun p hp => ⟨p, rfl, ⟨_, SqL.of upd_same⟩, ?_⟩⟩
  have hpa : a ≠ p := ne_of_none upd_same hp
  have hHc : upd H a (stD g c rest (turn + 1)) c = some (.lst (cs.map V.int)) := by rw [upd_ne hca]; exact hc
  have hpc : c ≠ p := ne_of_none hHc hp
  generalize hG : upd (upd H a (stD g c rest (turn + 1))) p (.lst [V.int 2147483579, V.int 2147483629, V.int 2147483563]) = G
  have gp : G p = some (.lst [V.int 2147483579, V.int 2147483629, V.int 2147483563]) := by rw [← hG]; exact upd_same
  have ga : G a = some (stD g c rest (turn + 1)) := by rw [← hG, upd_ne hpa]; exact upd_same
  have gc : G c = some (.lst (cs.map V.int)) := by rw [← hG, upd_ne hpc]; exact hHc
  refine for_list (a := p) (xs := [V.int 2147483579, V.int 2147483629, V.int 2147483563]) (fun _ σ H' => H' = G ∧ ∃ (f : Int) (v3 v4 v5 : Option V), 0 ≤ f ∧ σ = [some (.ref a), some (.int (turn + 1)), some (.int f), v3, v4, v5]) ⟨rfl, 0, none, none, none, Int.le_refl 0, rfl⟩ (fun i σ H' _ h => by rw [h.1]; exact SqL.of gp) ?_ ?_
  · rintro i x σ H' hx ⟨hH, f, v3, v4, v5, f0, rfl⟩
    rw [hH]
    obtain ⟨pr, rfl, pl, pg⟩ : ∃ pr : Int, x = V.int pr ∧ 2147483563 ≤ pr ∧ pr ≤ 2147483629 := by
      have m := List.mem_of_getElem? hx
      simp only [List.mem_cons, List.not_mem_nil, or_false] at m
      rcases m with rfl | rfl | rfl <;> exact ⟨_, rfl, by decide, by decide⟩
    have hd : (0 : Int) ≤ pr.fdiv 53 ∧ pr.fdiv 53 ≤ 1000000000 := by
      rw [Int.fdiv_eq_ediv_of_nonneg pr (by decide)]
      omega
    refine ⟨_, rfl, _, _, rfl, rfl, .inl ⟨by decide, by decide⟩, _, rfl, _, _, rfl, rfl, ⟨by decide, by decide⟩, _, _, rfl, rfl, ?_⟩
    refine ⟨_, rfl, a, _, rfl, gCells ga, c, rfl, ⟨_, SqL.of gc⟩, for_list (a := c) (xs := cs.map V.int) (fun _ σ H' => H' = G ∧ ∃ (b : Int) (v5 : Option V), 0 ≤ b ∧ b < 9000000000000000000 ∧ σ = [some (.ref a), some (.int (turn + 1)), some (.int f), some (.int pr), some (.int b), v5]) ⟨rfl, _, v5, ?_, ?_, rfl⟩ (fun i σ H' _ h => by rw [h.1]; exact SqL.of gc) ?_ ?_⟩
    · show (0 : Int) ≤ 48271 * (turn + 1) + pr.fdiv 53
      omega
    · show 48271 * (turn + 1) + pr.fdiv 53 < 9000000000000000000
      omega
    · rintro j y σ H' hy ⟨hH, b, v5, b0, b1, rfl⟩
      rw [hH]
      obtain ⟨z, rfl, hz⟩ := at_int hy
      refine ⟨_, rfl, _, _, rfl, rfl, .inr ⟨by decide, by decide⟩, _, rfl, _, _, rfl, rfl, _, rfl, _, _, rfl, rfl, .inl ⟨_, rfl, _, rfl, _, _, rfl, rfl, by omega, ?_⟩⟩
      have m1 := Int.fmod_nonneg_of_pos (b * 69621 + z + (turn + 1)) (show (0 : Int) < pr by omega)
      have m2 := Int.fmod_lt_of_pos (b * 69621 + z + (turn + 1)) (show (0 : Int) < pr by omega)
      exact ⟨rfl, (b * 69621 + z + (turn + 1)).fmod pr, some (.int z), m1, by omega, rfl⟩
    · rintro σ H' ⟨hH, b, v5, b0, b1, rfl⟩
      rw [hH]
      refine ⟨_, rfl, _, _, rfl, rfl, .inr ⟨by decide, by decide⟩, _, rfl, _, _, rfl, rfl, ⟨by decide, by decide, by omega⟩, .inl ⟨_, rfl, _, rfl, _, _, rfl, rfl, by omega, _, _, rfl, rfl, ?_⟩⟩
      have m1 := Int.fmod_nonneg_of_pos (b ^ (5 : Int).toNat) (show (0 : Int) < pr by omega)
      exact ⟨rfl, f * 2147483647 + (b ^ (5 : Int).toNat).fmod pr, _, _, _, by omega, rfl⟩
  · rintro σ H' ⟨hH, f, v3, v4, v5, f0, rfl⟩
    rw [hH]
    refine ⟨_, rfl, q f _ f0 ga fun b o hb e => ?_⟩
    have e2 : upd H a (stD g c rest (turn + 1)) b = some o := by rw [upd_ne hb]; exact e
    rw [← hG, upd_ne (ne_of_none e2 hp)]
    exact e2
end
end Dr

namespace Dr
open PySem PySem.Spec PyProof.Rows L2
theorem ints_lay : ∀ gs : List Int, PyData.canLayAll0 (gs.map PyData.int) = true ∧ PyData.depthAll (gs.map PyData.int) ≤ 1
  | [] => ⟨rfl, by simp [PyData.depthAll]⟩
  | g :: gs => by
    obtain ⟨a, b⟩ := ints_lay gs
    refine ⟨?_, ?_⟩
    · show (PyData.canLay0 (.int g) && PyData.canLayAll0 (gs.map PyData.int)) = true
      rw [a]
      rfl
    · show max (PyData.depth (.int g)) (PyData.depthAll (gs.map PyData.int)) ≤ 1
      have : PyData.depth (.int g) ≤ 1 := by simp [PyData.depth]
      omega
theorem ints_shaped (gs : List Int) : SeqAt.shaped (.list (gs.map PyData.int)) = true := by
  obtain ⟨a, b⟩ := ints_lay gs
  show (PyData.canLay0 (.list (gs.map PyData.int)) && decide (PyData.depth (.list (gs.map PyData.int)) ≤ 64)) = true
  have h1 : PyData.canLay0 (.list (gs.map PyData.int)) = true := a
  have h2 : PyData.depth (.list (gs.map PyData.int)) ≤ 64 := by
    show PyData.depthAll (gs.map PyData.int) + 1 ≤ 64
    omega
  rw [h1, decide_eq_true h2]
  rfl
theorem ints_dp {K : PySem.W.Frag} {H : Hp} : ∀ gs : List Int, DpAll K H (gs.map V.int) (gs.map PyData.int)
  | [] => .nil
  | g :: gs => .cons (.int g) (ints_dp gs)
abbrev ND : List Str := ["state", "room", "found"]
/-- a number below room; the state's own parts may change, nothing else -/
def spDraw : Sp := fun vs H Q _ => ∃ (a g c : Addr) (B : Int) (room : Int), vs = [.ref a, .int room] ∧ 0 < room ∧ room < 1000000000 ∧ DrwAt H a g c B ∧ B < 1000000000000 ∧
  ∀ n H', 0 ≤ n → n < room → DrwAt H' a g c (B + 1) → (∀ b o, b ≠ a → b ≠ g → H b = some o → H' b = some o) → Q (.int n) H'
theorem scD : FnScope ND ["state", "room"] (defScope sDraw) := ⟨rfl, rfl, rfl, by decide +kernel, rfl, by decide +kernel, by decide +kernel⟩
def t_tail : TS := tSeq (tAsg (tOp (rI (fun _ j => j ≠ 0) fun i j => V.int (i.fmod j))
        (tCB (fun xs H Q => (∃ i, xs = [V.int i] ∧ Q (V.int i) H) ∨ ∃ k, xs = [V.bl k] ∧ Q (V.int (if k = true then 1 else 0)) H) (tCons (tDGet (tVar 0) (tC (V.str (Str.ofString "rest")))) tNil)) (tVar 1)) (gName 2))
      (tSeq (sDPut (tVar 0) (tC (V.str (Str.ofString "rest"))) (tOp (rI CDivN fun i j => V.int (i.fdiv j)) (tDGet (tVar 0) (tC (V.str (Str.ofString "rest")))) (tVar 1))) (tRet (tVar 2)))
theorem tail_ok {a g c : Addr} {B room : Int} {H : Hp} {Q : VK} (r0 : 0 < room) (r1 : room < 1000000000) (D : DrwAt H a g c B)
    (q : ∀ n H', 0 ≤ n → n < room → DrwAt H' a g c B → (∀ b o, b ≠ a → H b = some o → H' b = some o) → Q (.int n) H') : t_tail { nx := fun _ H' => Q .non H', rt := Q } (L2.start ND [.ref a, .int room]) H := by
  obtain ⟨⟨rest, turn, h0, t0, tB, ha⟩, ⟨gs, g0, hg⟩, ⟨cs, c0, hc⟩⟩ := D
  have ga : g ≠ a := ne_of hg ha nofun
  have ca : c ≠ a := ne_of hc ha nofun
  refine ⟨_, rfl, a, _, rfl, gRest ha, .inl ⟨_, rfl, _, rfl, _, _, rfl, rfl, by omega, ?_⟩⟩
  refine ⟨_, rfl, a, _, rfl, gRest ha, _, rfl, _, _, rfl, rfl, ⟨by omega, by omega⟩, _, rfl, a, _, rfl, pRest ha _, _, rfl, ?_⟩
  refine q _ _ (Int.fmod_nonneg_of_pos _ r0) (Int.fmod_lt_of_pos _ r0) ⟨⟨rest.fdiv room, turn, ?_, t0, tB, upd_same⟩, ⟨gs, g0, ?_⟩, ⟨cs, c0, ?_⟩⟩ fun b o hb e => ?_
  · rw [Int.fdiv_eq_ediv_of_nonneg _ (Int.le_of_lt r0)]
    exact Int.ediv_nonneg h0 (Int.le_of_lt r0)
  · rw [upd_ne ga]; exact hg
  · rw [upd_ne ca]; exact hc
  · rw [upd_ne hb]; exact e
section
variable {P : Program} {w : World} {K : PySem.W.Frag} {mg : Str → Option Value} {base : Heap}
theorem ok_draw {f fB : Addr} {fd fdB : FuncData} (F : Fun K "_law_draw" "_law_draw" sDraw f fd) (FB : Fun K "_law_blended" "_law_blended" sBlended fB fdB) (bB : Binds K fdB ["state"] []) (kB : PySem.W.keepIn K (.ref fB) = true)
    (gB : mg "_law_blended" = some (.ref fB)) (gI : mg "int" = none) : FnOk P w K mg base CX0 2 f fd ["state", "room"] spDraw := by
  have GB : FnOk P w K mg base CX0 1 fB fdB ["state"] spBlended := ok_blended FB gI
  refine F.ok scD (fun vs H Q E h => ?_) (fun cdv A outer s H vs Q E hr h => ?_)
  · obtain ⟨a, g, c, B, room, rfl, _⟩ := h
    rfl
  have hu := hu_of hr
  refine ⟨_, PSs.nox (
    pss_cons (ps_if (pt_cmpR op_eq (pe_dget hu (pv 0) pe_str (fun _ _ => rfl)) pe_int (nomark _)) (pss_one (ps_dput hu (pv 0) pe_str
        (pe_ifExp (pt_cmpR (op_neD hr.units) (pe_dget hu (pv 0) pe_str (fun _ _ => rfl)) (pe_lst pa_nil) (nomark _))
          (pe_bm PySem.F.plainAttrs_list PySem.F.slot_list_pop PySem.F.type_list_pop mt_popAt (pe_dget hu (pv 0) pe_str (fun _ _ => rfl)) (pa_cons pe_int pa_nil))
          (pe_call GB hr rfl gB kB bB .nil pass0 (pa_cons (pv 0) pa_nil))) rfl)) pss_nil)
    (pss_cons (ps_set (i := 2) scD.nd rfl (Or.inl rfl) (pe_op op_modN (pe_callTy call_int1 rfl gI PyProof.Rows.boot_int (pa_cons (pe_dget hu (pv 0) pe_str (fun _ _ => rfl)) pa_nil)) (pv 1)))
    (pss_cons (ps_dput hu (pv 0) pe_str (pe_op op_fdivN (pe_dget hu (pv 0) pe_str (fun _ _ => rfl)) (pv 1)) rfl)
    (pss_one (ps_ret (pv 2)))))), ?_⟩
  obtain ⟨a, g, c, B, room, rfl, r0, r1, D, hB, q⟩ := h
  have tail : ∀ H2, DrwAt H2 a g c (B + 1) → (∀ b o, b ≠ a → b ≠ g → H b = some o → H2 b = some o) → t_tail { nx := fun _ H' => Q .non H', rt := Q } (L2.start ND [.ref a, .int room]) H2 :=
    fun H2 D2 k2 => tail_ok r0 r1 D2 fun n H' n0 n1 D3 k3 => q n H' n0 n1 D3 fun b o ba bg e => k3 b o ba (k2 b o ba bg e)
  obtain ⟨⟨rest, turn, h0, t0, tB, ha⟩, ⟨gs, g0, hg⟩, ⟨cs, c0, hc⟩⟩ := D
  have ga : g ≠ a := ne_of hg ha nofun
  have ca : c ≠ a := ne_of hc ha nofun
  refine ⟨_, rfl, a, _, rfl, gRest ha, rfl, _, rfl, ?_⟩
  refine ite2 (fun _ => ?_) (fun _ => ?_)
  · refine ⟨_, rfl, a, _, rfl, gGreat ha, by show 0 ≤ sizeLine; decide, fun e he => ?_⟩
    have ea : a ≠ e := ne_of_none ha he
    have eg : g ≠ e := ne_of_none hg he
    have ec : c ≠ e := ne_of_none hc he
    have ha1 : upd H e (.lst []) a = some (stD g c rest turn) := by rw [upd_ne ea]; exact ha
    have hg1 : upd H e (.lst []) g = some (.lst (gs.map V.int)) := by rw [upd_ne eg]; exact hg
    have hc1 : upd H e (.lst []) c = some (.lst (cs.map V.int)) := by rw [upd_ne ec]; exact hc
    have k1 : ∀ b o, H b = some o → upd H e (.lst []) b = some o := fun b o h => by rw [upd_ne (ne_of_none h he)]; exact h
    generalize eG : upd H e (.lst []) = H1 at ha1 hg1 hc1 k1
    have he1 : H1 e = some (.lst []) := by rw [← eG]; exact upd_same
    refine ⟨.list (gs.map PyData.int), .list [], .lst (SqL.of hg1) (ints_dp gs), .lst (SqL.of he1) .nil, ints_shaped gs, rfl, _, rfl, ?_⟩
    cases gs with
    | nil =>
      refine iteF ?_
      refine ⟨_, rfl, a, g, c, rest, turn, rfl, ha1, t0, by omega, ⟨cs, c0, hc1⟩, fun n H2 n0 e2 k2 => ?_⟩
      refine ⟨_, rfl, a, _, rfl, pRest e2 n, tail _ ⟨⟨n, turn + 1, n0, by omega, by omega, upd_same⟩, ⟨[], nofun, ?_⟩, ⟨cs, c0, ?_⟩⟩ fun b o ba bg h => ?_⟩
      · rw [upd_ne ga]; exact k2 g _ ga hg1
      · rw [upd_ne ca]; exact k2 c _ ca hc1
      · rw [upd_ne ba]; exact k2 b _ ba (k1 b o h)
    | cons x gs =>
      refine iteT ?_
      refine ⟨_, rfl, a, _, rfl, gGreat ha1, .inl ⟨rfl, _, SqL.of hg1⟩, g, _, 0, 0, .int x, rfl, rfl, hg1, by decide, by decide, by simp [seqIndex?], rfl, _, rfl, a, _, rfl, pRest (by rw [upd_ne (Ne.symm ga)]; exact ha1) x, tail _ ⟨⟨x, turn, g0 x List.mem_cons_self, t0, by omega, upd_same⟩, ⟨gs, fun y hy => g0 y (List.mem_cons_of_mem _ hy), ?_⟩, ?_⟩ fun b o ba bg h => ?_⟩
      · rw [upd_ne ga, upd_same]; rfl
      · by_cases cg : c = g
        · subst cg
          exact ⟨gs, fun y hy => g0 y (List.mem_cons_of_mem _ hy), by rw [upd_ne ga, upd_same]; rfl⟩
        · exact ⟨cs, c0, by rw [upd_ne ca, upd_ne cg]; exact hc1⟩
      · rw [upd_ne ba, upd_ne bg]; exact k1 b o h
  · exact tail H ⟨⟨rest, turn, h0, t0, by omega, ha⟩, ⟨gs, g0, hg⟩, ⟨cs, c0, hc⟩⟩ fun b o _ _ h => h
end
end Dr

namespace Dr
open PySem PySem.Spec PyProof.Rows L2
/-- one of the list's items -/
def spPick : Sp := fun vs H Q _ => ∃ (a g c l : Addr) (B : Int) (xs : List V), vs = [.ref a, .ref l] ∧ H l = some (.lst xs) ∧ 0 < xs.length ∧ xs.length < 1000000 ∧ l ≠ g ∧ DrwAt H a g c B ∧ B < 1000000000000 ∧
  ∀ (i : Nat) (x : V) (H' : Hp), xs[i]? = some x → DrwAt H' a g c (B + 1) → (∀ b o, b ≠ a → b ≠ g → H b = some o → H' b = some o) → Q x H'
abbrev NP : List Str := ["state", "some"]
theorem scP : FnScope NP ["state", "some"] (defScope sPick) := ⟨rfl, rfl, rfl, by decide +kernel, rfl, by decide +kernel, by decide +kernel⟩
section
variable {P : Program} {w : World} {K : PySem.W.Frag} {mg : Str → Option Value} {base : Heap}
theorem ok_pick {f fD : Addr} {fd fdD : FuncData} (F : Fun K "_law_pick" "_law_pick" sPick f fd) (GD : FnOk P w K mg base CX0 2 fD fdD ["state", "room"] spDraw) (bD : Binds K fdD ["state", "room"] []) (kD : PySem.W.keepIn K (.ref fD) = true)
    (gD : mg "_law_draw" = some (.ref fD)) (gL : mg "len" = none) : FnOk P w K mg base CX0 3 f fd ["state", "some"] spPick := by
  refine F.ok scP (fun vs H Q E h => ?_) (fun cdv A outer s H vs Q E hr h => ⟨_, PSs.nox (
    pss_one (ps_ret (pe_ix ix_list (pv 1) (pe_call GD hr rfl gD kD bD .nil pass0 (pa_cons (pv 0) (pa_cons (pe_callB call_len_seq rfl gL PySem.boot_len (pa_cons (pv 1) pa_nil)) pa_nil))) (fun _ _ => rfl)))), ?_⟩)
  · obtain ⟨a, g, c, l, B, xs, rfl, _⟩ := h
    rfl
  obtain ⟨a, g, c, l, B, xs, rfl, hl, l0, l1, lg, D, hB, q⟩ := h
  have la : l ≠ a := by
    obtain ⟨rest, turn, _, _, _, ha⟩ := D.st
    exact ne_of hl ha nofun
  refine ⟨_, rfl, _, rfl, _, rfl, l, _, rfl, .inl (SqL.of hl), a, g, c, B, (xs.length : Int), rfl, by omega, by omega, D, hB, fun n H' n0 n1 D' k' => ?_⟩
  have hl' := k' l _ la lg hl
  obtain ⟨m, rfl⟩ := Int.eq_ofNat_of_zero_le n0
  have hm : m < xs.length := by omega
  refine ⟨l, xs, _, _, rfl, rfl, SqL.of hl', atI_nat (List.getElem?_eq_getElem hm), ?_⟩
  exact q m _ H' (List.getElem?_eq_getElem hm) D' k'
end
end Dr

namespace Exv
open PySem PySem.Spec PyProof.Rows L2
/-- a new exception of the class at C, behind its own beginning -/
def tMkV (C : Addr) (sp : Sp) (dvs : List V) (ta : TA) : TE := fun σ H Q => ta σ H fun vs H1 => vs.length ≤ 1000 ∧
  ∀ a, H1 a = none → sp (.ref a :: (vs ++ dvs)) (upd H1 a (exo a C none)) (fun v H2 => v = .non ∧ Q (.ref a) H2) (fun _ _ _ => False)
section
variable {X : Cx} {pins : List (Addr × Obj)} {σ : L2.St} {H : Hp} {s : Shared}
theorem pe_mkv {CX : CXT} {x : Str} {C fI : Addr} {k : Nat} {fd : FuncData} {ps : List Str} {sp : Sp} {ds : List Value} {dvs : List V} {e : Expr} {es : List Expr} {ta : TA} {p pos : Pos}
    (T : OexC X.K C) (iC : PySem.W.findIn X.K (.ref C) "__init__" = some (some (.ref fI))) (tI : PySem.W.typeIn X.K (.ref fI) = some (.type "function"))
    (F1 : FnOk X.prog X.w X.K X.mg X.base CX k fI fd ps sp) (hr : Room (k + 1) X.A) (hb : Binds X.K fd ps ds) (hd : Vals dvs ds) (hx : Passes CX X (fun _ _ _ => False))
    (hm : X.mg x = some (.ref C)) (ha : PA X (e :: es) ta) (hg : Gl X x := by rfl) (hdb : (x == ("__debug__" : Str)) = false := by decide)
    (he : starEach (e :: es) X.env = (false, eval e X.env) :: starEach es X.env := by rfl) (hpl : (backTo pos (starEach es X.env)).any (·.1) = false := by rfl) :
    PE X (.Call (.Name x p) (e :: es) [] pos) (tMkV C sp dvs ta) := by
  constructor
  intro pins s σ H Q I h
  obtain ⟨nm, q, N, bs, bm, sn, sub, ab, col, dd, k0, k1, k2, k3, k5, hC, hbm⟩ := T.cls
  apply wpAny_Call_Name_kw
  refine ld_glob I hg hm ?_ hdb
  refine PySem.W.callWith_K (h₀ := X.base) I.ok.mod.kin T.kC (thn (ha.run pos pins s σ H _ I h) ?_) he hpl
  rintro us ⟨hp, g, dr, tk, os⟩ ⟨vs, H1, I1, r1, hz, q1⟩
  refine ⟨I1.kIn, ?_⟩
  show wpAny _ _ (call (.ref C) us) _ _ _
  have up : hp.objs.size ≤ hp.objs.size + 1 := by omega
  specialize q1 (hp.objs.size + 1) (I1.hok.fresh up)
  have got : ((hp.push (PySem.W.kdv_tup us)).push (PySem.HandSPX.excO C hp.objs.size)).get? (hp.objs.size + 1) = some (PySem.HandSPX.excO C hp.objs.size) := by heap_get
  have I2 := I1.laid (t' := tk) (a := hp.objs.size + 1) (o := exo (hp.objs.size + 1) C none) (h' := (hp.push (PySem.W.kdv_tup us)).push (PySem.HandSPX.excO C hp.objs.size))
    (fun b o z => by apply Heap.get?_push_of_some; exact Heap.get?_push_of_some _ z) up (exo_ok got)
  have r2 : Vals (V.ref (hp.objs.size + 1) :: (vs ++ dvs)) (Value.ref (hp.objs.size + 1) :: (us ++ ds)) := Paired.cons (by rfl) (r1.append hd)
  have few : us.length ≤ sizeLine := by
    have := Paired.length r1
    rw [sizeLine_eq]; omega
  have many : (Value.ref (hp.objs.size + 1) :: us ++ ds).length = ps.length := by
    have := r2.length
    rw [F1.len _ _ _ _ q1] at this
    exact this.symm
  apply wpAny_call
  refine PySem.HandSPX.call_own F.excBase_ValueError (fun Y => PySem.HandSPX.refsVE_contains Y bm hbm) (I1.kIn _ _ hC) (PySem.W.looks_findIn I1.kIn iC) (fun self => PySem.W.bind_fn I1.kIn self tI) few (codeAny_mono (F1.run _ X.stack _ _ ⟨Value.ref (hp.objs.size + 1) :: us, []⟩ _ _ _ (fun _ _ _ => False) (hr.make C us []) (I2.env0.make C us []) (hb _ (Value.ref (hp.objs.size + 1) :: us) I2.kIn many) r2 q1) ?_)
  intro r s' hq
  cases r with
  | error er => exact hx pins σ _ _ er s' I2 hq
  | ok fl =>
    cases fl <;> try exact False.elim hq
    rename_i u
    obtain ⟨v, H2, os2, bare2, un2, hok2, rv, ev, q2⟩ := hq
    subst ev
    obtain ⟨h2, g2, d2, t2, os'⟩ := s'
    obtain rfl : os' = os := os2
    exact ⟨rv, .ref (hp.objs.size + 1), H2, I2.call (ch := []) un2 hok2 bare2 (fun b z => absurd z (by simp)), rfl, q2⟩
end
end Exv

namespace PySem
namespace ExvK
open PySem.W PySem.Calls PyProof.Rows PySem.HandSPX
section
variable {prog : Program} {w : World} {A : Around} {E : Value → Shared → Prop} {R : Result → Shared → Prop} {h : Heap} {g : Array GenState} {d : Drawn} {t : Nat} {os : OsState}
variable {nm q : Str} {C N : Addr} {bs bm bmB : List Value} {hdct : Bool} {sn : List Str} {sub : List Value} {ab : Bool} {col : Option Bool} {dd : Option Addr} {k0 k1 k2 k3 k5 : Option Value} {B newId initId : String}
variable {rest : List Value} {kw : List (Str × Value)}
theorem check_new_kw {Q : Unit → Shared → Prop} (F : ExcBaseFacts B newId initId bmB) (hT : ∀ X : String, bm.contains (.type X) = bmB.contains (.type X))
    (hC : h.get? C = some (excClassObj nm q C N bs bm hdct sn sub ab col dd k0 k1 k2 k3 k5 newId)) (hq : Q () ⟨h, g, d, t, os⟩) :
    wpAny (model prog w) A (checkBuiltinCall newId ⟨.ref C :: rest, kw⟩) Q E ⟨h, g, d, t, os⟩ := by
  have c1 : (Value.ref C :: bm).contains (.type B) = true := by
    rw [List.contains_cons, hT, F.hasB]
    exact Bool.or_true _
  have c2 := F.noStar
  simp only [checkBuiltinCall, F.newKind, F.newSplit, F.newRow]
  repeat (first
    | refine wpAny_loadPart_at hC ?_
    | (refine wpAny_isSubtype_exc hC ?_; rw [c1])
    | refine wpAny_staticBase_exc hC ?_
    | refine wpAny_madeBy_exc hC ?_
    | simp only [bne_self_eq_false, Bool.false_eq_true, if_false]
    | wp_step)
  exact hq
theorem new_kw (F : ExcBaseFacts B newId initId bmB) (hT : ∀ X : String, bm.contains (.type X) = bmB.contains (.type X))
    (hC : h.get? C = some (excClassObj nm q C N bs bm hdct sn sub ab col dd k0 k1 k2 k3 k5 newId)) (few : rest.length ≤ sizeLine)
    (hq : R (.ok (.ret (.ref (h.objs.size + 1)))) ⟨(h.push (W.kdv_tup rest)).push (excO C h.objs.size), g, d, t, os⟩) :
    codeAny (model prog w) A (.builtin newId ⟨.ref C :: rest, kw⟩) R ⟨h, g, d, t, os⟩ := by
  have c0 := F.ends
  have c1 : (Value.ref C :: bm).contains (.type B) = true := by
    rw [List.contains_cons, hT, F.hasB]
    exact Bool.or_true _
  have c2 : (Value.ref C :: bm).contains (.type "AttributeError") = false := by
    rw [List.contains_cons, hT, F.noAttr]
    rfl
  have c3 : (Value.ref C :: bm).contains (.type "NameError") = false := by
    rw [List.contains_cons, hT, F.noName]
    rfl
  apply codeAny_builtinAt F.entry
  unfold Builtin.«BaseException.__new__»
  apply wpAt_bind
  show wpAt _ _ _ (stack >>= _) _ _ _
  apply wpAt_bind
  refine wpAt_stack fun p below => ?_
  apply wpAt_of_wpAny
  wp_walk
  apply wpAt_of_wpAny
  rw [F.owner]
  repeat (first
    | with_reducible refine wpAny_madeHere_exc F.canon hC ?_
    | with_reducible refine wpAny_loadPart_at hC ?_
    | (with_reducible refine wpAny_isSubtype_exc hC ?_; first | rw [c1] | rw [c2] | rw [c3])
    | wp_step)
  show R _ _
  rw [Heap.size_push]
  exact hq
theorem type_call_kw {fI : Addr} {Q : Fin → Shared → Prop} (F : ExcBaseFacts B newId initId bmB) (hT : ∀ X : String, bm.contains (.type X) = bmB.contains (.type X))
    (hC : h.get? C = some (excClassObj nm q C N bs bm hdct sn sub ab col dd k0 k1 k2 k3 k5 newId)) (few : rest.length ≤ sizeLine)
    (hi : W.Looks (model prog w) h (typeLookup (.ref C) "__init__") (some (.ref fI))) (hb : ∀ self, W.Looks (model prog w) h (bindSpecial (.ref fI) self) (.ref fI, [self]))
    (hq : codeAny (model prog w) A (.call (.ref fI) ⟨.ref (h.objs.size + 1) :: rest, kw⟩)
      (fun r s' => match r with | .ok (.ret v) => v = .none ∧ Q (.done (.ret (.ref (h.objs.size + 1)))) s' | .ok _ => False | .error e => E e s') ⟨(h.push (W.kdv_tup rest)).push (excO C h.objs.size), g, d, t, os⟩) :
    wpAny (model prog w) A (Builtin.«type.__call__» ⟨.ref C :: rest, kw⟩) Q E ⟨h, g, d, t, os⟩ := by
  have grow : ∀ b o, h.get? b = some o → ((h.push (W.kdv_tup rest)).push (excO C h.objs.size)).get? b = some o := fun b o e => by
    apply Heap.get?_push_of_some
    exact Heap.get?_push_of_some _ e
  repeat (first
    | with_reducible refine wpAny_loadPart_at hC ?_
    | with_reducible refine wpAny_madeBy_exc hC ?_
    | wp_step)
  apply codeAny_call_builtin_code (Code.quiet_builtin _ F.quiet)
  apply check_new_kw F hT hC
  apply new_kw F hT hC few
  show wpAny _ _ _ _ _ _
  have hC2 := grow _ _ hC
  have got : ((h.push (W.kdv_tup rest)).push (excO C h.objs.size)).get? (h.objs.size + 1) = some (excO C h.objs.size) := by heap_get
  have c1 : (Value.ref C :: bm).contains (.ref C) = true := by simp
  have i2 := hi.keeps grow
  have b2 := (hb (.ref (h.objs.size + 1))).keeps grow
  unfold isInstance
  repeat (first
    | with_reducible refine wpAny_loadPart_at got ?_
    | (with_reducible refine wpAny_isSubtype_exc hC2 ?_; rw [c1])
    | wp_step)
  show wpAny _ _ (typeLookup (.ref C) _) _ _ _
  apply i2.at
  apply wpAny_holding
  apply wpAny_bind
  apply b2.at
  apply wpAny_bind
  apply wpAny_call
  refine codeAny_mono hq ?_
  intro r s' z
  cases r with
  | error e => exact z
  | ok fl =>
    cases fl <;> try exact z.elim
    obtain ⟨rfl, z⟩ := z
    first
      | exact wpAny_pure (wpAny_pure z)
      | (wp_walk; exact z)
theorem check_tc_kw {M : Model} {Q : Unit → Shared → Prop} (hC : h.get? C = some (excClassObj nm q C N bs bm hdct sn sub ab col dd k0 k1 k2 k3 k5 newId))
    (hq : Q () ⟨h, g, d, t, os⟩) : wpAny M A (checkBuiltinCall "type.__call__" ⟨.ref C :: rest, kw⟩) Q E ⟨h, g, d, t, os⟩ := by
  have e3 := tc_sub
  have hTy : (⟨h, g, d, t, os⟩ : Shared).TypeIs (.ref C) "type" := by
    refine ⟨_, hC, ?_⟩
    rfl
  simp only [checkBuiltinCall, tc_kind, tc_split]
  repeat (any_goals (first
    | assumption
    | with_reducible refine wpAny_loadPart_at hC ?_
    | with_reducible refine wpAny_onRaise ?_
    | with_reducible refine wpAny_map ?_
    | wp_step))
theorem call_kw {fI : Addr} (F : ExcBaseFacts B newId initId bmB) (hT : ∀ X : String, bm.contains (.type X) = bmB.contains (.type X))
    (hC : h.get? C = some (excClassObj nm q C N bs bm hdct sn sub ab col dd k0 k1 k2 k3 k5 newId)) (few : rest.length ≤ sizeLine)
    (hi : W.Looks (model prog w) h (typeLookup (.ref C) "__init__") (some (.ref fI))) (hb : ∀ self, W.Looks (model prog w) h (bindSpecial (.ref fI) self) (.ref fI, [self]))
    (hq : codeAny (model prog w) (A.under (.builtin "type.__call__" ⟨.ref C :: rest, kw⟩)) (.call (.ref fI) ⟨.ref (h.objs.size + 1) :: rest, kw⟩) (W.InitBack (h.objs.size + 1) R) ⟨(h.push (W.kdv_tup rest)).push (excO C h.objs.size), g, d, t, os⟩) :
    codeAny (model prog w) A (.call (.ref C) ⟨rest, kw⟩) R ⟨h, g, d, t, os⟩ := by
  have e1 := tc_lookup
  have e2 := tc_bind (.ref C)
  have hTy : (⟨h, g, d, t, os⟩ : Shared).TypeIs (.ref C) "type" := by
    refine ⟨_, hC, ?_⟩
    rfl
  apply codeAny_of_tree
  show wpAny _ _ (callAny (.ref C) _) _ _ _
  repeat (any_goals (first
    | assumption
    | with_reducible refine wpAny_loadPart_at hC ?_
    | wp_step))
  refine ⟨rfl, ?_⟩
  refine codeAny_call_builtin_at (Code.quiet_builtin _ (by decide +kernel)) entry_typeCall (check_tc_kw hC ?_)
  refine type_call_kw F hT hC few hi hb (codeAny_mono hq ?_)
  intro r s' z
  cases r with
  | error e => exact z
  | ok fl => cases fl <;> exact z
end
end ExvK
end PySem

namespace Exv
open PySem PySem.Spec PyProof.Rows L2
/-- a new exception, its beginning called by keywords alone -/
def tMkK (C : Addr) (sp : Sp) (gV : List V → List V → List V) (tk : TA) : TE := fun σ H Q => tk σ H fun zs H1 => zs.length ≤ 1000 ∧
  ∀ a, H1 a = none → sp (gV [.ref a] zs) (upd H1 a (exo a C none)) (fun v H2 => v = .non ∧ Q (.ref a) H2) (fun _ _ _ => False)
section
variable {X : Cx} {pins : List (Addr × Obj)} {σ : L2.St} {H : Hp} {s : Shared}
theorem pe_mkk {CX : CXT} {x : Str} {C fI : Addr} {k : Nat} {fd : FuncData} {ps ks : List Str} {sp : Sp} {g : List Value → List Value → List Value} {gV : List V → List V → List V} {kws : List Keyword} {tk : TA} {p pos : Pos}
    (T : OexC X.K C) (iC : PySem.W.findIn X.K (.ref C) "__init__" = some (some (.ref fI))) (tI : PySem.W.typeIn X.K (.ref fI) = some (.type "function"))
    (F1 : FnOk X.prog X.w X.K X.mg X.base CX k fI fd ps sp) (hr : Room (k + 1) X.A) (hb : KBinds X.K fd ps ks g gV) (hx : Passes CX X (fun _ _ _ => False))
    (hm : X.mg x = some (.ref C)) (hkw : PK X kws tk) (hg : Gl X x := by rfl)
    (hall : (backToKw pos (keywordEach kws X.env)).all (·.1.isSome) = true := by rfl) (hks : (backToKw pos (keywordEach kws X.env)).filterMap (·.1) = ks := by rfl)
    (hdb : (x == ("__debug__" : Str)) = false := by decide)
    (hpl : ((backTo pos (starEach [] X.env)).any (·.1) || (backToKw pos (keywordEach kws X.env)).any (·.1.isNone)) = false := by rfl) :
    PE X (.Call (.Name x p) [] kws pos) (tMkK C sp gV tk) := by
  constructor
  intro pins s σ H Q I h
  obtain ⟨nm, q, N, bs, bm, sn, sub, ab, col, dd, k0, k1, k2, k3, k5, hC, hbm⟩ := T.cls
  apply wpAny_Call_Name_kw
  refine ld_glob I hg hm ?_ hdb
  refine PySem.W.callWith_KW0 (h₀ := X.base) I.ok.mod.kin T.kC hall (thn (hkw.run pos pins s σ H _ I h) ?_) hpl
  rintro ws ⟨hp, g1, dr, t1, os⟩ ⟨zs, H1, I1, r1, hz, q1⟩
  refine ⟨I1.kIn, ?_⟩
  rw [hks]
  show wpAny _ _ (call (.ref C) [] (ks.zip ws)) _ _ _
  have up : hp.objs.size ≤ hp.objs.size + 1 := by omega
  specialize q1 (hp.objs.size + 1) (I1.hok.fresh up)
  have got : ((hp.push (PySem.W.kdv_tup [])).push (PySem.HandSPX.excO C hp.objs.size)).get? (hp.objs.size + 1) = some (PySem.HandSPX.excO C hp.objs.size) := by heap_get
  have I2 := I1.laid (t' := t1) (a := hp.objs.size + 1) (o := exo (hp.objs.size + 1) C none) (h' := (hp.push (PySem.W.kdv_tup [])).push (PySem.HandSPX.excO C hp.objs.size))
    (fun b o z => by apply Heap.get?_push_of_some; exact Heap.get?_push_of_some _ z) up (exo_ok got)
  have r2 := hb.rel (Paired.cons (show RelV (.ref (hp.objs.size + 1)) (.ref (hp.objs.size + 1)) from rfl) Paired.nil) r1
  have many : (g [Value.ref (hp.objs.size + 1)] ws).length = ps.length := by
    rw [← r2.length]
    exact F1.len _ _ _ _ q1
  apply wpAny_call
  refine PySem.ExvK.call_kw F.excBase_ValueError (fun Y => PySem.HandSPX.refsVE_contains Y bm hbm) (I1.kIn _ _ hC) (by simp) (PySem.W.looks_findIn I1.kIn iC) (fun self => PySem.W.bind_fn I1.kIn self tI)
    (codeAny_mono (F1.run _ X.stack _ _ ⟨[Value.ref (hp.objs.size + 1)], ks.zip ws⟩ _ _ _ (fun _ _ _ => False) ?_ ?_ (hb.to _ [Value.ref (hp.objs.size + 1)] ws I2.kIn many) r2 q1) ?_)
  · exact hr.make C [] (ks.zip ws)
  · exact I2.env0.make C [] (ks.zip ws)
  intro r s' hq
  cases r with
  | error er => exact hx pins σ _ _ er s' I2 hq
  | ok fl =>
    cases fl <;> try exact False.elim hq
    rename_i u
    obtain ⟨v, H2, os2, bare2, un2, hok2, rv, ev, q2⟩ := hq
    subst ev
    obtain ⟨h2, g2, d2, t2, os'⟩ := s'
    obtain rfl : os' = os := os2
    exact ⟨rv, .ref (hp.objs.size + 1), H2, I2.call (ch := []) un2 hok2 bare2 (fun b z => absurd z (by simp)), rfl, q2⟩
/-! ### the class's own look for its instances -/
/-- what is asked of a class so that isinstance and its instances' fields are found -/
structure ExI (K : PySem.W.Frag) (C : Addr) : Prop where
  hcl : (PySem.W.clsIn K C).isSome = true
  hga : PySem.W.findIn K (.ref C) "__getattribute__" = some (some (.builtin "BaseException.__getattribute__"))
  hgt : PySem.W.findIn K (.ref C) "__getattr__" = some none
  hsub : PySem.W.subIn K (.ref C) (.type "BaseException") = some true
  hdc : PySem.W.hasDictIn K C = true
  ha : PySem.W.findIn K (.ref C) "__class__" = some (some (.builtin "object.__class__"))
  hn : PySem.W.specialIn K (.builtin "object.__class__") "__get__" = some (some (.builtin "getset_descriptor.__get__"))
  ht : PySem.W.takesIn K (.builtin "object.__class__") = some true
  hm : PySem.W.mroIn K C (.type "object") = some true
/-- an exception of the class at C: without a field, or with some -/
def ExAt (K : PySem.W.Frag) (H : Hp) (a C : Addr) : Prop := H a = some (ExO (.ref C) a) ∨ H a = some (exo a C none) ∨ ∃ (d : Addr) (fs : List (Str × V)), H a = some (exo a C (some d)) ∧ H d = some (exd d fs)
theorem instAt_of {K : PySem.W.Frag} {a C : Addr} (I : L2.Inv X pins σ H s) (e : ExAt K H a C) : ∃ oe od, PySem.W.InstAt s.heap a oe C od := by
  rcases e with e | e | ⟨d, fs, e, ed⟩
  · have z : ObjOk X.prog X.w H s.heap a (ExO (.ref C) a) := I.hok a _ e
    obtain ⟨⟨oe, vs, h1, h2, h3, _⟩, _⟩ := z
    exact ⟨oe, none, h1, h2.1, by unfold PySem.W.notCls; rw [h3] <;> rfl, by rw [h2.2]; exact True.intro⟩
  · obtain ⟨t1, h1⟩ := exo_at I.hok e
    exact ⟨_, none, h1, rfl, rfl, True.intro⟩
  · obtain ⟨t1, h1⟩ := exo_at I.hok e
    obtain ⟨mA, hn, _⟩ := exd_at I.hok ed
    obtain ⟨od, ho, _⟩ := lookIn_ns hn
    exact ⟨_, some od, h1, rfl, rfl, ho⟩
/-- isinstance(e, T) -/
def rIsX (K : PySem.W.Frag) : List V → Hp → VK → Prop := fun xs H Q => ∃ (a C : Addr) (c : V) (u : Value) (b : Bool), xs = [.ref a, c] ∧ ClsV c u ∧ ExI K C ∧ ExAt K H a C ∧ PySem.W.kitOne K (.ref C) u = some b ∧ Q (.bl b) H
theorem call_isx : CallR X (.builtin "isinstance") (rIsX X.K) := by
  intro pins s σ H xs us Q I r h
  obtain ⟨a, C, c, u, b, rfl, k, T, e, ek, q⟩ := h
  obtain ⟨u1, u2, rfl, r1, r2⟩ := vals2 r
  have e2 := k.eq r2
  subst e2
  obtain rfl : u1 = Value.ref a := r1
  obtain ⟨oe, od, J⟩ := instAt_of I e
  exact PySem.W.kia_one (PySem.W.kitx_exc (ox := oe) (od := od) T.hcl T.hga T.hgt T.hsub T.ha T.hn T.ht T.hm) I.kIn J ek (fun z => nomatch z) fun tk => ⟨.bl b, H, I.tok tk, rfl, q⟩
/-- e.f, e an exception with fields -/
def tXat (K : PySem.W.Frag) (f : Str) (te : TE) : TE := fun σ H Q => te σ H fun x H1 => ∃ (a C d : Addr) (fs : List (Str × V)) (v : V), x = .ref a ∧ ExI K C ∧ PySem.W.findIn K (.ref C) f = some none ∧ H1 a = some (exo a C (some d)) ∧ H1 d = some (exd d fs) ∧ fs.lookup f = some v ∧ Q v H1
theorem pe_xat {e : Expr} {te : TE} {f : Str} {pos : Pos} (he : PE X e te) (hb : attributeBase e f X.env (eval e X.env) = eval e X.env := by rfl) : PE X (.Attribute e f pos) (tXat X.K f te) := by
  constructor
  intro pins s σ H Q I h
  refine attr_of hb (thn (he.run pins s σ H _ I h) ?_)
  rintro u s1 ⟨x, H1, I1, rx, a, C, d, fs, v, rfl, T, hno, ea, ed, l, q⟩
  obtain rfl : u = Value.ref a := rx
  obtain ⟨t1, h1⟩ := exo_at I1.hok ea
  obtain ⟨mA, hn, rel⟩ := exd_at I1.hok ed
  obtain ⟨od, ho, hl⟩ := lookIn_ns hn
  obtain ⟨u, hu, ru⟩ := RelO.some_of (v := v) (o := mA f) (by rw [← l]; exact rel f)
  have J : PySem.W.InstAt s1.heap a _ C (some od) := ⟨h1, rfl, rfl, ho⟩
  refine HandSPX.exc_get I1.kIn J T.hga T.hgt T.hsub (PySem.W.findObj_own T.hdc hno rfl (by rw [hl, hu])) (handed_of ru) ?_
  exact ⟨v, H1, I1.tok _, ru, q⟩
/-- {None} -/
def tFmtN (te : TE) : TE := fun σ H Q => te σ H fun x H1 => (∃ y : Str, x = .str y ∧ y.length ≤ sizeLine ∧ Q (.str y) H1) ∨ (∃ i : Int, x = .int i ∧ i.natAbs.log2 < 1920 ∧ Q (.str (toString i)) H1) ∨ (x = .non ∧ Q (.str (Str.ofString "None")) H1)
theorem pe_fmtN {e : Expr} {te : TE} {pos : Pos} (he : PE X e te) : PE X (.FormattedValue e (-1) none pos) (tFmtN te) := by
  constructor
  intro pins s σ H Q I h
  refine wpAny_FormattedValue_plain (thn (he.run pins s σ H _ I h) ?_)
  rintro v s1 ⟨x, H1, I1, r1, q⟩
  rcases q with ⟨y, rfl, hz, q⟩ | ⟨i, rfl, hz, q⟩ | ⟨rfl, q⟩
  · obtain ⟨t, rfl⟩ := r1
    exact wpAny_formatField_str ⟨.str y, H1, I1, ⟨t, rfl⟩, q⟩ ⟨.str y, H1, I1.tok _, ⟨_, rfl⟩, q⟩ hz
  · obtain ⟨t, rfl⟩ := r1
    exact wpAny_formatField_int hz ⟨.str (toString i), H1, I1.tok _, ⟨_, rfl⟩, q⟩
  · obtain rfl : v = Value.none := r1
    exact wpAny_formatField_none ⟨.str (Str.ofString "None"), H1, I1.tok _, ⟨_, rfl⟩, q⟩
end
end Exv

namespace Exv
open PySem PySem.Spec PyProof.Rows L2
/-- the class at R is read as classes are, and its __init__ is ValueError's -/
structure ReI (K : PySem.W.Frag) (R : Addr) : Prop where
  rd : PySem.W.readsIn K R (.type "type") = true
  ga : PySem.W.specialIn K (.ref R) "__getattribute__" = some (some (.builtin "type.__getattribute__"))
  ini : PySem.W.findCls K (.ref R) (.type "type") "__init__" = some (.val (.builtin "ValueError.__init__"))
section
variable {X : Cx} {pins : List (Addr × Obj)} {σ : L2.St} {H : Hp} {s : Shared}
/-- R.__init__(self, ..): ValueError's own beginning -/
theorem pe_reinit {x : Str} {R : Addr} {e : Expr} {es : List Expr} {ta : TA} {p1 p2 pos : Pos} {pl : Sem Bool} (T : ReI X.K R) (hm : X.mg x = some (.ref R)) (ha : PA X (e :: es) ta) (hg : Gl X x := by rfl) (hdb : (x == ("__debug__" : Str)) = false := by decide)
    (hc : eval (.Call (.Attribute (.Name x p1) "__init__" p2) (e :: es) [] pos) X.env = (do
      let ov ← eval (.Name x p1) X.env
      standAt p2.atName
      let (f, first) ← holding [ov] (getMethod ov "__init__" pl)
      callWith pos f first (backTo pos (starEach (e :: es) X.env)) (backToKw pos (keywordEach [] X.env))) := by rfl)
    (he : starEach (e :: es) X.env = (false, eval e X.env) :: starEach es X.env := by rfl) (hpl : (backTo pos (starEach es X.env)).any (·.1) = false := by rfl) :
    PE X (.Call (.Attribute (.Name x p1) "__init__" p2) (e :: es) [] pos) (tVeI X.K ta) := by
  constructor
  intro pins s σ H Q I h
  refine PySem.W.methodCall_KW (ld_glob I hg hm ?_ hdb) hc
  refine PySem.W.method_cls I.kIn T.ga (PySem.W.cls_value I.kIn T.rd T.ini (by decide +kernel) ?_)
  show wpAny _ _ (callWith pos (Value.builtin "ValueError.__init__") [] (backTo pos (starEach (e :: es) X.env)) []) _ _ _
  refine PyProof.Rows.callWith_method1 (thn (ha.run pos pins _ σ H _ (I.tok _) h) ?_) he hpl
  rintro us s1 ⟨vs, H1, I1, r1, a, C, ws, rfl, hl, TC, ea, q⟩
  cases r1 with
  | @cons _ u0 _ ur ra rr =>
    obtain rfl : u0 = Value.ref a := ra
    have hlen : ur.length ≤ sizeLine := by
      have := Paired.length rr
      rw [sizeLine_eq]; omega
    exact oinit_ok TC I1 ea hlen fun s' J => ⟨.non, H1, J, rfl, q⟩
end
end Exv

namespace Kt
open PySem PySem.Spec PyProof.Rows L2 Exv Dr
abbrev sDeeds : Stmt := inClass (top 2) 0
abbrev sJournal : Stmt := inClass (top 4) 0
abbrev sRow : Stmt := inClass (top 9) 0
abbrev sText : Stmt := inClass (top 10) 0
abbrev sGone : Stmt := inClass (top 11) 0
abbrev sMany : Stmt := inClass (top 17) 0
/-- the text that a field becomes in the error's own -/
def FmV (v : V) : Prop := ∃ y : Str, y.length ≤ 1000 ∧ (v = .str y ∨ (∃ i : Int, v = .int i ∧ i.natAbs.log2 < 1920 ∧ y = toString i) ∨ (v = .non ∧ y = "None"))
def spI1 (C : Addr) (f : Str) : Sp := fun vs H Q _ => ∃ (a : Addr) (v : V), vs = [.ref a, v] ∧ FmV v ∧ H a = some (exo a C none) ∧
  ∀ dx, H dx = none → dx ≠ a → Q .non (upd (upd H dx (exd dx [(f, v)])) a (exo a C (some dx)))
/-- what the text says of an error's class -/
structure EC (K : PySem.W.Frag) (mg : Str → Option Value) (x : Str) (C : Addr) : Prop where
  g : mg x = some (.ref C)
  o : OexC K C
  i : ExI K C
/-- {x} of such a value: some text, not long -/
def tFmtA (te : TE) : TE := fun σ H Q => te σ H fun x H1 => FmV x ∧ ∀ y : Str, y.length ≤ 1000 → Q (.str y) H1
theorem pe_fmtA {X : Cx} {e : Expr} {te : TE} {pos : Pos} (he : PE X e te) : PE X (.FormattedValue e (-1) none pos) (tFmtA te) := by
  constructor
  intro pins s σ H Q I h
  refine wpAny_FormattedValue_plain (thn (he.run pins s σ H _ I h) ?_)
  rintro v s1 ⟨x, H1, I1, r1, ⟨y, hy, f⟩, q⟩
  have l : y.length ≤ sizeLine := by rw [sizeLine_eq]; omega
  have q := q y hy
  rcases f with rfl | ⟨i, rfl, hi, rfl⟩ | ⟨rfl, rfl⟩
  · obtain ⟨t, rfl⟩ := r1
    exact wpAny_formatField_str ⟨.str y, H1, I1, ⟨t, rfl⟩, q⟩ ⟨.str y, H1, I1.tok _, ⟨_, rfl⟩, q⟩ l
  · obtain ⟨t, rfl⟩ := r1
    exact wpAny_formatField_int hi ⟨.str (toString i), H1, I1.tok _, ⟨_, rfl⟩, q⟩
  · obtain rfl : v = Value.none := r1
    exact wpAny_formatField_none ⟨.str (Str.ofString "None"), H1, I1.tok _, ⟨_, rfl⟩, q⟩
theorem len_more {a b : Str} {n : Nat} (ha : a.length ≤ n) (hn : n ≤ 1000000) (hb : b.length ≤ 1000) : (a ++ b).length ≤ sizeLine := by
  rw [Str.length_append, sizeLine_eq]
  omega
section
variable {P : Program} {w : World} {K : PySem.W.Frag} {mg : Str → Option Value} {base : Heap}
theorem sc_deeds : FnScope ["self", "at"] ["self", "at"] (defScope sDeeds) := ⟨rfl, rfl, rfl, by decide +kernel, rfl, by decide +kernel, by decide +kernel⟩
theorem ok_deeds {f C R : Addr} {fd : FuncData} (F : Fun K "__init__" "BadDeeds.__init__" sDeeds f fd) (T : EC K mg "BadDeeds" C) (TR : ReI K R) (gR : mg "ReturnError" = some (.ref R)) (no : PySem.W.findIn K (.ref C) "at" = some none) : FnOk P w K mg base CX0 1 f fd ["self", "at"] (spI1 C "at") := by
  refine F.ok sc_deeds (fun vs H Q E h => ?_) (fun cdv A outer s H vs Q E hr h => ⟨_, PSs.nox (
    pss_cons (ps_expr (pe_reinit TR gR (pa_cons (pv 0) (pa_cons (pe_joined (.cons pe_str (.cons (pe_fmtA (pv 1)) .nil))) pa_nil)))) (pss_one (ps_ost (pv 0) (pv 1)))), ?_⟩)
  · obtain ⟨a, v, rfl, _⟩ := h
    rfl
  obtain ⟨a, v, rfl, fv, ha, q⟩ := h
  refine ⟨_, rfl, _, rfl, by decide, _, rfl, fv, fun y hy => ⟨y, rfl, len_more (n := 1000) (by decide) (by decide) hy, a, C, [_], rfl, (by decide : 1 ≤ 1000), T.o, ha, _, rfl, _, rfl, a, C, rfl, T.o, no, .inl ⟨ha, fun dx n ne => q dx n ne⟩⟩⟩
theorem sc_journal : FnScope ["self", "at"] ["self", "at"] (defScope sJournal) := ⟨rfl, rfl, rfl, by decide +kernel, rfl, by decide +kernel, by decide +kernel⟩
theorem ok_journal {f C R : Addr} {fd : FuncData} (F : Fun K "__init__" "BadJournal.__init__" sJournal f fd) (T : EC K mg "BadJournal" C) (TR : ReI K R) (gR : mg "ReturnError" = some (.ref R)) (no : PySem.W.findIn K (.ref C) "at" = some none) : FnOk P w K mg base CX0 1 f fd ["self", "at"] (spI1 C "at") := by
  refine F.ok sc_journal (fun vs H Q E h => ?_) (fun cdv A outer s H vs Q E hr h => ⟨_, PSs.nox (
    pss_cons (ps_expr (pe_reinit TR gR (pa_cons (pv 0) (pa_cons (pe_joined (.cons pe_str (.cons (pe_fmtA (pv 1)) .nil))) pa_nil)))) (pss_one (ps_ost (pv 0) (pv 1)))), ?_⟩)
  · obtain ⟨a, v, rfl, _⟩ := h
    rfl
  obtain ⟨a, v, rfl, fv, ha, q⟩ := h
  refine ⟨_, rfl, _, rfl, by decide, _, rfl, fv, fun y hy => ⟨y, rfl, len_more (n := 1000) (by decide) (by decide) hy, a, C, [_], rfl, (by decide : 1 ≤ 1000), T.o, ha, _, rfl, _, rfl, a, C, rfl, T.o, no, .inl ⟨ha, fun dx n ne => q dx n ne⟩⟩⟩
theorem sc_row : FnScope ["self", "at"] ["self", "at"] (defScope sRow) := ⟨rfl, rfl, rfl, by decide +kernel, rfl, by decide +kernel, by decide +kernel⟩
theorem ok_row {f C R : Addr} {fd : FuncData} (F : Fun K "__init__" "BadRow.__init__" sRow f fd) (T : EC K mg "BadRow" C) (TR : ReI K R) (gR : mg "ReturnError" = some (.ref R)) (no : PySem.W.findIn K (.ref C) "at" = some none) : FnOk P w K mg base CX0 1 f fd ["self", "at"] (spI1 C "at") := by
  refine F.ok sc_row (fun vs H Q E h => ?_) (fun cdv A outer s H vs Q E hr h => ⟨_, PSs.nox (
    pss_cons (ps_expr (pe_reinit TR gR (pa_cons (pv 0) (pa_cons (pe_joined (.cons pe_str (.cons (pe_fmtA (pv 1)) .nil))) pa_nil)))) (pss_one (ps_ost (pv 0) (pv 1)))), ?_⟩)
  · obtain ⟨a, v, rfl, _⟩ := h
    rfl
  obtain ⟨a, v, rfl, fv, ha, q⟩ := h
  refine ⟨_, rfl, _, rfl, by decide, _, rfl, fv, fun y hy => ⟨y, rfl, len_more (n := 1000) (by decide) (by decide) hy, a, C, [_], rfl, (by decide : 1 ≤ 1000), T.o, ha, _, rfl, _, rfl, a, C, rfl, T.o, no, .inl ⟨ha, fun dx n ne => q dx n ne⟩⟩⟩
theorem sc_text : FnScope ["self", "at"] ["self", "at"] (defScope sText) := ⟨rfl, rfl, rfl, by decide +kernel, rfl, by decide +kernel, by decide +kernel⟩
theorem ok_text {f C R : Addr} {fd : FuncData} (F : Fun K "__init__" "BadText.__init__" sText f fd) (T : EC K mg "BadText" C) (TR : ReI K R) (gR : mg "ReturnError" = some (.ref R)) (no : PySem.W.findIn K (.ref C) "at" = some none) : FnOk P w K mg base CX0 1 f fd ["self", "at"] (spI1 C "at") := by
  refine F.ok sc_text (fun vs H Q E h => ?_) (fun cdv A outer s H vs Q E hr h => ⟨_, PSs.nox (
    pss_cons (ps_expr (pe_reinit TR gR (pa_cons (pv 0) (pa_cons (pe_joined (.cons pe_str (.cons (pe_fmtA (pv 1)) .nil))) pa_nil)))) (pss_one (ps_ost (pv 0) (pv 1)))), ?_⟩)
  · obtain ⟨a, v, rfl, _⟩ := h
    rfl
  obtain ⟨a, v, rfl, fv, ha, q⟩ := h
  refine ⟨_, rfl, _, rfl, by decide, _, rfl, fv, fun y hy => ⟨y, rfl, len_more (n := 1000) (by decide) (by decide) hy, a, C, [_], rfl, (by decide : 1 ≤ 1000), T.o, ha, _, rfl, _, rfl, a, C, rfl, T.o, no, .inl ⟨ha, fun dx n ne => q dx n ne⟩⟩⟩
theorem sc_many : FnScope ["self", "most"] ["self", "most"] (defScope sMany) := ⟨rfl, rfl, rfl, by decide +kernel, rfl, by decide +kernel, by decide +kernel⟩
theorem ok_many {f C R : Addr} {fd : FuncData} (F : Fun K "__init__" "TooMany.__init__" sMany f fd) (T : EC K mg "TooMany" C) (TR : ReI K R) (gR : mg "ReturnError" = some (.ref R)) (no : PySem.W.findIn K (.ref C) "most" = some none) : FnOk P w K mg base CX0 1 f fd ["self", "most"] (spI1 C "most") := by
  refine F.ok sc_many (fun vs H Q E h => ?_) (fun cdv A outer s H vs Q E hr h => ⟨_, PSs.nox (
    pss_cons (ps_expr (pe_reinit TR gR (pa_cons (pv 0) (pa_cons (pe_joined (.cons pe_str (.cons (pe_fmtA (pv 1)) .nil))) pa_nil)))) (pss_one (ps_ost (pv 0) (pv 1)))), ?_⟩)
  · obtain ⟨a, v, rfl, _⟩ := h
    rfl
  obtain ⟨a, v, rfl, fv, ha, q⟩ := h
  refine ⟨_, rfl, _, rfl, by decide, _, rfl, fv, fun y hy => ⟨y, rfl, len_more (n := 1000) (by decide) (by decide) hy, a, C, [_], rfl, (by decide : 1 ≤ 1000), T.o, ha, _, rfl, _, rfl, a, C, rfl, T.o, no, .inl ⟨ha, fun dx n ne => q dx n ne⟩⟩⟩
/-- Gone's two fields -/
def spGone (C : Addr) : Sp := fun vs H Q _ => ∃ (a : Addr) (v u : V), vs = [.ref a, v, u] ∧ FmV v ∧ FmV u ∧ H a = some (exo a C none) ∧
  ∀ dx, H dx = none → dx ≠ a → Q .non (upd (upd (upd H dx (exd dx [("word", v)])) a (exo a C (some dx))) dx (exd dx [("birth", u), ("word", v)]))
theorem sc_gone : FnScope ["self", "word", "birth"] ["self", "word", "birth"] (defScope sGone) := ⟨rfl, rfl, rfl, by decide +kernel, rfl, by decide +kernel, by decide +kernel⟩
theorem ok_gone {f C R : Addr} {fd : FuncData} (F : Fun K "__init__" "Gone.__init__" sGone f fd) (T : EC K mg "Gone" C) (TR : ReI K R) (gR : mg "ReturnError" = some (.ref R)) (no : PySem.W.findIn K (.ref C) "word" = some none) (no2 : PySem.W.findIn K (.ref C) "birth" = some none) : FnOk P w K mg base CX0 1 f fd ["self", "word", "birth"] (spGone C) := by
  refine F.ok sc_gone (fun vs H Q E h => ?_) (fun cdv A outer s H vs Q E hr h => ⟨_, PSs.nox (
    pss_cons (ps_expr (pe_reinit TR gR (pa_cons (pv 0) (pa_cons (pe_joined (.cons pe_str (.cons (pe_fmtA (pv 1)) (.cons pe_str (.cons (pe_fmtA (pv 2)) .nil))))) pa_nil)))) (pss_cons (ps_ost (pv 0) (pv 1)) (pss_one (ps_ost (pv 0) (pv 2))))), ?_⟩)
  · obtain ⟨a, v, u, rfl, _⟩ := h
    rfl
  obtain ⟨a, v, u, rfl, fv, fu, ha, q⟩ := h
  refine ⟨_, rfl, _, rfl, by decide, _, rfl, fv, fun y hy => ⟨y, rfl, len_more (n := 1000) (by decide) (by decide) hy, _, rfl, ?_, _, rfl, fu, fun z hz => ⟨z, rfl, ?_, a, C, [_], rfl, (by decide : 1 ≤ 1000), T.o, ha, _, rfl, _, rfl, a, C, rfl, T.o, no, .inl ⟨ha, fun dx n ne => ⟨_, rfl, _, rfl, a, C, rfl, T.o, no2, .inr ⟨dx, [("word", v)], upd_same, by rw [upd_ne ne]; exact upd_same, (by decide : 1 ≤ 900), q dx n ne⟩⟩⟩⟩⟩⟩
  · rw [Str.length_append, Str.length_append, sizeLine_eq]
    have : (Str.empty ++ Str.ofString "gone: ").length = 6 := by decide
    have : (Str.ofString " ").length = 1 := by decide
    omega
  · rw [Str.length_append, Str.length_append, Str.length_append, sizeLine_eq]
    have : (Str.empty ++ Str.ofString "gone: ").length = 6 := by decide
    have : (Str.ofString " ").length = 1 := by decide
    omega
end
end Kt

namespace Kt
open PySem PySem.Spec PyProof.Rows L2 Exv Dr
abbrev veM : List Value := [.type "ValueError", .type "Exception", .type "BaseException", .type "object"]
/-- a class without a beginning of its own: it stands under ValueError and R, not under N -/
structure NC (K : PySem.W.Frag) (mg : Str → Option Value) (R N : Addr) (x : Str) (C : Addr) : Prop where
  g : mg x = some (.ref C)
  e : PySem.W.excIn K C veM "ValueError.__new__" = true
  kp : PySem.W.keepIn K (.ref C) = true
  i : ExI K C
  v : PySem.W.kitOne K (.ref C) (.type "ValueError") = some true
  r : PySem.W.kitOne K (.ref C) (.ref R) = some true
  n : PySem.W.kitOne K (.ref C) (.ref N) = some false
/-- a class with a beginning of its own -/
structure IC (K : PySem.W.Frag) (mg : Str → Option Value) (R N : Addr) (x : Str) (C fI : Addr) : Prop where
  ec : EC K mg x C
  iC : PySem.W.findIn K (.ref C) "__init__" = some (some (.ref fI))
  tI : PySem.W.typeIn K (.ref fI) = some (.type "function")
  r : PySem.W.kitOne K (.ref C) (.ref R) = some true
  n : PySem.W.kitOne K (.ref C) (.ref N) = some false
/-- an error of such a class -/
def Gd (K : PySem.W.Frag) (R N : Addr) (H : Hp) (x : V) : Prop := ∃ a C, x = .ref a ∧ H a = some (ExO (.ref C) a) ∧ ExI K C ∧ PySem.W.kitOne K (.ref C) (.type "ValueError") = some true ∧
  PySem.W.kitOne K (.ref C) (.ref R) = some true ∧ PySem.W.kitOne K (.ref C) (.ref N) = some false
/-- .. with the field f, of the worth n -/
def Gf (K : PySem.W.Frag) (R N : Addr) (f : Str) (n : V) (H : Hp) (x : V) : Prop := ∃ a C d fs, x = .ref a ∧ H a = some (exo a C (some d)) ∧ H d = some (exd d fs) ∧ fs.lookup f = some n ∧ ExI K C ∧ PySem.W.findIn K (.ref C) f = some none ∧
  PySem.W.kitOne K (.ref C) (.ref R) = some true ∧ PySem.W.kitOne K (.ref C) (.ref N) = some false
theorem Gd.mono {K : PySem.W.Frag} {R N : Addr} {H H' : Hp} {x : V} (s : Same H H') (h : Gd K R N H x) : Gd K R N H' x := by
  obtain ⟨a, C, e, ha, r⟩ := h
  exact ⟨a, C, e, s _ _ ha, r⟩
theorem Gf.mono {K : PySem.W.Frag} {R N : Addr} {f : Str} {n : V} {H H' : Hp} {x : V} (s : Same H H') (h : Gf K R N f n H x) : Gf K R N f n H' x := by
  obtain ⟨a, C, d, fs, e, ha, hd, r⟩ := h
  exact ⟨a, C, d, fs, e, s _ _ ha, s _ _ hd, r⟩
theorem drw_mono {H H' : Hp} {a g c : Addr} {B : Int} (s : Same H H') (h : DrwAt H a g c B) : DrwAt H' a g c B := by
  obtain ⟨⟨rest, turn, h1, h2, h3, h4⟩, ⟨gs, g0, hg⟩, ⟨cs, c0, hc⟩⟩ := h
  exact ⟨⟨rest, turn, h1, h2, h3, s _ _ h4⟩, ⟨gs, g0, s _ _ hg⟩, ⟨cs, c0, s _ _ hc⟩⟩
theorem same_new {H : Hp} {a : Addr} {o : HO} (h : H a = none) : Same H (upd H a o) := sameU h (Same.refl H)
abbrev NLw : List Str := ["script", "state", "word", "error", "n", "many", "gone"]
def spLaw (K : PySem.W.Frag) : Sp := fun vs H Q _ => ∃ (a : Addr) (ns : List Int), vs = [.ref a] ∧ SqL K H a (ns.map V.int) ∧ ns.length ≤ 63 ∧ ∀ H', Q (.bl true) H'
theorem scLw : FnScope NLw ["script"] (defScope sLaw) := ⟨rfl, rfl, rfl, by decide +kernel, rfl, by decide +kernel, by decide +kernel⟩
def g2 {α : Type} : List α → List α → List α
  | [a], [b] => [a, b]
  | _, _ => []
def g3 {α : Type} : List α → List α → List α
  | [a], [b, c] => [a, c, b]
  | _, _ => []
section
variable {P : Program} {w : World} {K : PySem.W.Frag} {mg : Str → Option Value} {base : Heap}
theorem kb_many {f : Addr} {fd : FuncData} (F : Fun K "__init__" "TooMany.__init__" sMany f fd) : KBinds K fd ["self", "most"] ["most"] g2 g2 := by
  obtain ⟨oc, od, kV, doc, pm, an, cdv, ct, osl, rfl, lk, hcd⟩ := F.ex
  constructor
  · intro s us ws _ hl
    match us, ws, hl with
    | [a], [b], _ => exact BindsTo.of_eq (by first | rfl | with_unfolding_all rfl)
  · intro vs us zs ws r1 r2
    cases r1 with
    | nil => exact .nil
    | cons a ra => cases ra with
      | cons _ _ => cases r2 <;> first | exact .nil | (rename_i q; cases q <;> exact .nil)
      | nil => cases r2 with
        | nil => exact .nil
        | cons b rb => cases rb with
          | nil => exact .cons a (.cons b .nil)
          | cons _ _ => exact .nil
theorem kb_gone {f : Addr} {fd : FuncData} (F : Fun K "__init__" "Gone.__init__" sGone f fd) : KBinds K fd ["self", "word", "birth"] ["birth", "word"] g3 g3 := by
  obtain ⟨oc, od, kV, doc, pm, an, cdv, ct, osl, rfl, lk, hcd⟩ := F.ex
  constructor
  · intro s us ws _ hl
    match us, ws, hl with
    | [a], [b, c], _ => exact BindsTo.of_eq (by first | rfl | with_unfolding_all rfl)
  · intro vs us zs ws r1 r2
    cases r1 with
    | nil => exact .nil
    | cons a ra => cases ra with
      | cons _ _ => cases r2 <;> first | exact .nil | (rename_i q; cases q <;> first | exact .nil | (rename_i q; cases q <;> exact .nil))
      | nil => cases r2 with
        | nil => exact .nil
        | cons b rb => cases rb with
          | nil => exact .nil
          | cons c rc => cases rc with
            | nil => exact .cons a (.cons c (.cons b .nil))
            | cons _ _ => exact .nil
end
end Kt

namespace Kt
open PySem PySem.Spec PyProof.Rows L2 Exv Dr
/-- a walk over errors that changes nothing but its own name -/
theorem for_err {K : PySem.W.Frag} {p : Addr} {xs : List V} {tb : TS} {D : Ends} {x0 x1 x2 v3 v4 v5 v6 : Option V} {H : Hp} (hp : H p = some (.lst xs))
    (turn : ∀ x ∈ xs, ∀ D' : Ends, D'.nx [x0, x1, x2, some x, v4, v5, v6] H → tb D' [x0, x1, x2, some x, v4, v5, v6] H) (next : ∀ v, D.nx [x0, x1, x2, v, v4, v5, v6] H) :
    ∃ W : Nat → Nat → L2.St → Hp → Prop, (∃ m, W 0 m [x0, x1, x2, v3, v4, v5, v6] H) ∧ ∀ i m σ H, W i m σ H →
      ((Itl K p).stop i H ∧ D.nx σ H) ∨ ((Itl K p).go i H ∧ ∃ N : L2.St → Hp → Prop, (∀ σ' H', N σ' H' → ∃ m', m' < m ∧ W (i + 1) m' σ' H') ∧ ∀ x H', (Itl K p).yld i H x H' → gName 3 x σ H' fun σ2 H2 => tb { D with nx := N, ct := N, bk := D.nx } σ2 H2) := by
  refine for_list (K := K) (a := p) (xs := xs) (fun _ σ H' => H' = H ∧ ∃ v, σ = [x0, x1, x2, v, v4, v5, v6]) ⟨rfl, v3, rfl⟩ (fun i σ H' _ h => by rw [h.1]; exact SqL.of hp) ?_ ?_
  · rintro i x σ H' hx ⟨hH, v, rfl⟩
    rw [hH]
    exact turn x (List.mem_of_getElem? hx) _ ⟨rfl, some x, rfl⟩
  · rintro σ H' ⟨hH, v, rfl⟩
    rw [hH]
    exact next v
theorem mem6 {P : V → Prop} {x a b c d e f : V} (ha : P a) (hb : P b) (hc : P c) (hd : P d) (he : P e) (hf : P f) (h : x ∈ [a, b, c, d, e, f]) : P x := by
  simp only [List.mem_cons, List.not_mem_nil, or_false] at h
  rcases h with rfl | rfl | rfl | rfl | rfl | rfl <;> assumption
theorem mem5 {P : V → Prop} {x a b c d e : V} (ha : P a) (hb : P b) (hc : P c) (hd : P d) (he : P e) (h : x ∈ [a, b, c, d, e]) : P x := by
  simp only [List.mem_cons, List.not_mem_nil, or_false] at h
  rcases h with rfl | rfl | rfl | rfl | rfl <;> assumption
theorem mem4 {P : V → Prop} {x a b c d : V} (ha : P a) (hb : P b) (hc : P c) (hd : P d) (h : x ∈ [a, b, c, d]) : P x := by
  simp only [List.mem_cons, List.not_mem_nil, or_false] at h
  rcases h with rfl | rfl | rfl | rfl <;> assumption
theorem fm_int {k : Int} (h1 : (toString k : Str).length ≤ 1000) (h2 : k.natAbs.log2 < 1920) : FmV (.int k) := ⟨toString k, h1, .inr (.inl ⟨k, rfl, h2, rfl⟩)⟩
theorem n_ok {i : Nat} {n : V} (h : [V.int 0, .int 1, .int 7, .int 400, .int 20000, .non][i]? = some n) : FmV n ∧ scal n n = true :=
  mem6 (P := fun n => FmV n ∧ scal n n = true) ⟨fm_int (by decide +kernel) (by decide +kernel), rfl⟩ ⟨fm_int (by decide +kernel) (by decide +kernel), rfl⟩ ⟨fm_int (by decide +kernel) (by decide +kernel), rfl⟩ ⟨fm_int (by decide +kernel) (by decide +kernel), rfl⟩ ⟨fm_int (by decide +kernel) (by decide +kernel), rfl⟩
    ⟨⟨"None", by decide +kernel, .inr (.inr ⟨rfl, rfl⟩)⟩, rfl⟩ (List.mem_of_getElem? h)
theorem same_mk {H : Hp} {b x : Addr} {o u o' : HO} (n1 : H b = none) (m1 : upd H b o x = none) : Same H (upd (upd (upd H b o) x u) b o') := fun c y h => by
  have cb := ne_of_none h n1
  have cx : c ≠ x := ne_of_none (show upd H b o c = some y by rw [upd_ne cb]; exact h) m1
  rw [upd_ne cb, upd_ne cx, upd_ne cb]
  exact h
theorem gf_new {K : PySem.W.Frag} {mg : Str → Option Value} {R N C fI b x : Addr} {nm f : Str} {n : V} {H : Hp} {o : HO} (T : IC K mg R N nm C fI) (no : PySem.W.findIn K (.ref C) f = some none) (e : x ≠ b) :
    Gf K R N f n (upd (upd (upd H b o) x (exd x [(f, n)])) b (exo b C (some x))) (.ref b) :=
  ⟨b, C, x, [(f, n)], rfl, upd_same, by rw [upd_ne e]; exact upd_same, by simp [List.lookup], T.ec.i, no, T.r, T.n⟩
theorem same_mk2 {H : Hp} {b x : Addr} {o u o' u' : HO} (n1 : H b = none) (m1 : upd H b o x = none) : Same H (upd (upd (upd (upd H b o) x u) b o') x u') := fun c y h => by
  have cb := ne_of_none h n1
  have cx : c ≠ x := ne_of_none (show upd H b o c = some y by rw [upd_ne cb]; exact h) m1
  rw [upd_ne cx]
  exact same_mk n1 m1 c y h
theorem gd_new {K : PySem.W.Frag} {mg : Str → Option Value} {R N C a : Addr} {x : Str} {H : Hp} (T : NC K mg R N x C) : Gd K R N (upd H a (ExO (.ref C) a)) (.ref a) := ⟨a, C, rfl, upd_same, T.i, T.v, T.r, T.n⟩
section
variable {P : Program} {w : World} {K : PySem.W.Frag} {mg : Str → Option Value} {base : Heap}
/-- all that the text says for law -/
structure LT (P : Program) (w : World) (K : PySem.W.Frag) (mg : Str → Option Value) (base : Heap) (R c1 c2 c3 c4 c5 c6 d1 d2 d3 d4 d5 e1 e2 e3 e4 m g i1 i2 i3 i4 i5 i6 fB fP : Addr) (fdB fdP fi1 fi2 fi3 fi4 fi5 fi6 : FuncData) : Prop where
  gR : mg "ReturnError" = some (.ref R)
  gI : mg "isinstance" = none
  gV : mg "ValueError" = none
  h_c1 : NC K mg R d1 "BadExpression" c1
  h_c2 : NC K mg R d1 "BadMoment" c2
  h_c3 : NC K mg R d1 "BadMost" c3
  h_c4 : NC K mg R d1 "BadPath" c4
  h_c5 : NC K mg R d1 "BadProgram" c5
  h_c6 : NC K mg R d1 "Misfit" c6
  h_d1 : NC K mg R c5 "NoBill" d1
  h_d2 : NC K mg R c5 "NoName" d2
  h_d3 : NC K mg R c5 "NotOver" d3
  h_d4 : NC K mg R c5 "NotTold" d4
  h_d5 : NC K mg R c5 "Unlike" d5
  h_e1 : IC K mg R m "BadDeeds" e1 i1
  h_e2 : IC K mg R m "BadJournal" e2 i2
  h_e3 : IC K mg R m "BadRow" e3 i3
  h_e4 : IC K mg R m "BadText" e4 i4
  h_m : IC K mg R g "TooMany" m i5
  h_g : IC K mg R m "Gone" g i6
  b1 : Binds K fi1 ["self", "at"] []
  b2 : Binds K fi2 ["self", "at"] []
  b3 : Binds K fi3 ["self", "at"] []
  b4 : Binds K fi4 ["self", "at"] []
  b5 : KBinds K fi5 ["self", "most"] ["most"] g2 g2
  b6 : KBinds K fi6 ["self", "word", "birth"] ["birth", "word"] g3 g3
  f1 : FnOk P w K mg base CX0 1 i1 fi1 ["self", "at"] (spI1 e1 "at")
  f2 : FnOk P w K mg base CX0 1 i2 fi2 ["self", "at"] (spI1 e2 "at")
  f3 : FnOk P w K mg base CX0 1 i3 fi3 ["self", "at"] (spI1 e3 "at")
  f4 : FnOk P w K mg base CX0 1 i4 fi4 ["self", "at"] (spI1 e4 "at")
  f5 : FnOk P w K mg base CX0 1 i5 fi5 ["self", "most"] (spI1 m "most")
  f6 : FnOk P w K mg base CX0 1 i6 fi6 ["self", "word", "birth"] (spGone g)
  n1 : PySem.W.findIn K (.ref e1) "at" = some none
  n2 : PySem.W.findIn K (.ref e2) "at" = some none
  n3 : PySem.W.findIn K (.ref e3) "at" = some none
  n4 : PySem.W.findIn K (.ref e4) "at" = some none
  n5 : PySem.W.findIn K (.ref m) "most" = some none
  n6 : PySem.W.findIn K (.ref g) "word" = some none
  n7 : PySem.W.findIn K (.ref g) "birth" = some none
  gB : mg "_law_begun" = some (.ref fB)
  kB : PySem.W.keepIn K (.ref fB) = true
  bB : Binds K fdB ["script"] []
  h_fB : FnOk P w K mg base CX0 1 fB fdB ["script"] (spBegun K)
  gP : mg "_law_pick" = some (.ref fP)
  kP : PySem.W.keepIn K (.ref fP) = true
  bP : Binds K fdP ["state", "some"] []
  h_fP : FnOk P w K mg base CX0 3 fP fdP ["state", "some"] spPick
variable {R c1 c2 c3 c4 c5 c6 d1 d2 d3 d4 d5 e1 e2 e3 e4 m g i1 i2 i3 i4 i5 i6 fB fP : Addr} {fdB fdP fi1 fi2 fi3 fi4 fi5 fi6 : FuncData}
theorem ok_law {f : Addr} {fd : FuncData} (F : Fun K "law" "law" sLaw f fd) (T : LT P w K mg base R c1 c2 c3 c4 c5 c6 d1 d2 d3 d4 d5 e1 e2 e3 e4 m g i1 i2 i3 i4 i5 i6 fB fP fdB fdP fi1 fi2 fi3 fi4 fi5 fi6) : FnOk P w K mg base CX0 4 f fd ["script"] (spLaw K) := by
  refine F.ok scLw (fun vs H Q E h => ?_) (fun cdv A outer s H vs Q E hr h => ?_)
  · obtain ⟨a, ns, rfl, _⟩ := h
    rfl
  have hr1 : Room 2 (A.deeper (envOfC "law" (defScope sLaw) s.heap.objs.size f cdv)) := hr.mono (by decide)
  have bI : bootBuiltins "isinstance" = some (.builtin "isinstance") := by decide +kernel
  refine ⟨_, PSs.nox (
    pss_cons (ps_set (i := 1) scLw.nd rfl (Or.inl rfl) (pe_call T.h_fB (hr.mono (by decide)) rfl T.gB T.kB T.bB .nil pass0 (pa_cons (pv 0) pa_nil)))
    (pss_cons (ps_set (i := 2) scLw.nd rfl (Or.inl rfl) (pe_call T.h_fP hr rfl T.gP T.kP T.bP .nil pass0 (pa_cons (pv 1) (pa_cons (pe_lst (pa_cons pe_str (pa_cons pe_str (pa_cons pe_str (pa_cons pe_str pa_nil))))) pa_nil))))
    (pss_cons (ps_for PassesOwn.never rfl (pi_list (pe_lst (pa_cons (pe_exc1 PySem.F.excBase_ValueError T.h_c1.e T.h_c1.g T.h_c1.kp rfl (pv 2)) (pa_cons (pe_exc1 PySem.F.excBase_ValueError T.h_c2.e T.h_c2.g T.h_c2.kp rfl (pv 2)) (pa_cons (pe_exc1 PySem.F.excBase_ValueError T.h_c3.e T.h_c3.g T.h_c3.kp rfl (pv 2))
          (pa_cons (pe_exc1 PySem.F.excBase_ValueError T.h_c4.e T.h_c4.g T.h_c4.kp rfl (pv 2)) (pa_cons (pe_exc1 PySem.F.excBase_ValueError T.h_c5.e T.h_c5.g T.h_c5.kp rfl (pv 2)) (pa_cons (pe_exc1 PySem.F.excBase_ValueError T.h_c6.e T.h_c6.g T.h_c6.kp rfl (pv 2)) pa_nil)))))))) (pg_name (i := 3) scLw.nd rfl (Or.inl rfl))
        (pss_one (ps_if (PW.pt (pw_or (pt_not (pt_val (pe_callB call_isx rfl T.gI bI (pa_cons (pv 3) (pa_cons (pe_bltn rfl T.gV (by decide +kernel) (v := .ty "ValueError") rfl) pa_nil))))) (pw_or (pt_not (pt_val (pe_callB call_isx rfl T.gI bI (pa_cons (pv 3) (pa_cons (pe_glob rfl T.gR (v := .ref R) rfl) pa_nil)))))
          (pw_or1 (pt_val (pe_callB call_isx rfl T.gI bI (pa_cons (pv 3) (pa_cons (pe_glob rfl T.h_d1.g (v := .ref d1) rfl) pa_nil)))))))) (pss_one (ps_ret pe_bl)) pss_nil)))
    (pss_cons (ps_for PassesOwn.never rfl (pi_list (pe_lst (pa_cons (pe_exc1 PySem.F.excBase_ValueError T.h_d1.e T.h_d1.g T.h_d1.kp rfl (pv 2)) (pa_cons (pe_exc1 PySem.F.excBase_ValueError T.h_d2.e T.h_d2.g T.h_d2.kp rfl (pv 2)) (pa_cons (pe_exc1 PySem.F.excBase_ValueError T.h_d3.e T.h_d3.g T.h_d3.kp rfl (pv 2))
          (pa_cons (pe_exc1 PySem.F.excBase_ValueError T.h_d4.e T.h_d4.g T.h_d4.kp rfl (pv 2)) (pa_cons (pe_exc1 PySem.F.excBase_ValueError T.h_d5.e T.h_d5.g T.h_d5.kp rfl (pv 2)) pa_nil))))))) (pg_name (i := 3) scLw.nd rfl (Or.inl rfl))
        (pss_one (ps_if (PW.pt (pw_or (pt_not (pt_val (pe_callB call_isx rfl T.gI bI (pa_cons (pv 3) (pa_cons (pe_glob rfl T.gR (v := .ref R) rfl) pa_nil)))))
          (pw_or1 (pt_val (pe_callB call_isx rfl T.gI bI (pa_cons (pv 3) (pa_cons (pe_glob rfl T.h_c5.g (v := .ref c5) rfl) pa_nil))))))) (pss_one (ps_ret pe_bl)) pss_nil)))
    (pss_cons (ps_set (i := 4) scLw.nd rfl (Or.inl rfl) (pe_call T.h_fP hr rfl T.gP T.kP T.bP .nil pass0 (pa_cons (pv 1) (pa_cons (pe_lst (pa_cons pe_int (pa_cons pe_int (pa_cons pe_int (pa_cons pe_int (pa_cons pe_int (pa_cons pe_non pa_nil))))))) pa_nil))))
    (pss_cons (ps_for PassesOwn.never rfl (pi_list (pe_lst (pa_cons (pe_mkv T.h_e1.ec.o T.h_e1.iC T.h_e1.tI T.f1 hr1 T.b1 .nil pass0 T.h_e1.ec.g (pa_cons (pv 4) pa_nil)) (pa_cons (pe_mkv T.h_e2.ec.o T.h_e2.iC T.h_e2.tI T.f2 hr1 T.b2 .nil pass0 T.h_e2.ec.g (pa_cons (pv 4) pa_nil))
          (pa_cons (pe_mkv T.h_e3.ec.o T.h_e3.iC T.h_e3.tI T.f3 hr1 T.b3 .nil pass0 T.h_e3.ec.g (pa_cons (pv 4) pa_nil)) (pa_cons (pe_mkv T.h_e4.ec.o T.h_e4.iC T.h_e4.tI T.f4 hr1 T.b4 .nil pass0 T.h_e4.ec.g (pa_cons (pv 4) pa_nil)) pa_nil)))))) (pg_name (i := 3) scLw.nd rfl (Or.inl rfl))
        (pss_one (ps_if (PW.pt (pw_or (pt_cmpR op_ne (pe_xat (pv 3)) (pv 4) (nomark _)) (pw_or (pt_not (pt_val (pe_callB call_isx rfl T.gI bI (pa_cons (pv 3) (pa_cons (pe_glob rfl T.gR (v := .ref R) rfl) pa_nil)))))
          (pw_or1 (pt_val (pe_callB call_isx rfl T.gI bI (pa_cons (pv 3) (pa_cons (pe_glob rfl T.h_m.ec.g (v := .ref m) rfl) pa_nil)))))))) (pss_one (ps_ret pe_bl)) pss_nil)))
    (pss_cons (ps_par (i := 5) (j := 6) rfl scLw.nd rfl rfl (by decide) rfl rfl (pa_cons (pe_mkk T.h_m.ec.o T.h_m.iC T.h_m.tI T.f5 hr1 T.b5 pass0 T.h_m.ec.g (pk_cons (pv 4) pk_nil)) (pa_cons (pe_mkk T.h_g.ec.o T.h_g.iC T.h_g.tI T.f6 hr1 T.b6 pass0 T.h_g.ec.g (pk_cons (pv 4) (pk_cons pe_str pk_nil))) pa_nil)) (by first | rfl | with_unfolding_all rfl))
    (pss_cons (ps_if (PW.pt (pw_or (pt_cmpR op_ne (pe_xat (pv 5)) (pv 4) (nomark _)) (pw_or (pt_cmpR op_ne (pe_xat (pv 6)) pe_str (nomark _)) (pw_or1 (pt_cmpR op_ne (pe_xat (pv 6)) (pv 4) (nomark _)))))) (pss_one (ps_ret pe_bl)) pss_nil)
    (pss_one (ps_ret (pe_and (pe_callB call_isx rfl T.gI bI (pa_cons (pv 5) (pa_cons (pe_glob rfl T.gR (v := .ref R) rfl) pa_nil))) (pe_and (pe_callB call_isx rfl T.gI bI (pa_cons (pv 6) (pa_cons (pe_glob rfl T.gR (v := .ref R) rfl) pa_nil)))
      (pe_one (pe_not (pe_callB call_isx rfl T.gI bI (pa_cons (pv 5) (pa_cons (pe_glob rfl T.h_g.ec.g (v := .ref g) rfl) pa_nil))))))))))))))))), ?_⟩
  obtain ⟨a, ns, rfl, hS, hn, q⟩ := h
  refine ⟨_, rfl, a, ns, rfl, hS, by omega, fun st gr ce H1 _ _ D1 => ?_⟩
  refine ⟨_, rfl, by show 4 ≤ sizeLine; decide, fun p np => ⟨st, gr, ce, p, 0, _, rfl, upd_same, by decide, by decide, ?_, drw_mono (same_new np) D1, by decide, fun i word H2 _ D2 _ => ?_⟩⟩
  · obtain ⟨gs, _, hg⟩ := D1.g
    exact Ne.symm (ne_of_none hg np)
  refine ⟨_, rfl, fun a1 n1 => ⟨_, rfl, fun a2 n2 => ⟨_, rfl, fun a3 n3 => ⟨_, rfl, fun a4 n4 => ⟨_, rfl, fun a5 n5 => ⟨_, rfl, fun a6 n6 => ⟨by show 6 ≤ sizeLine; decide, fun p1 n7 => ⟨p1, rfl, ⟨_, SqL.of upd_same⟩, ?_⟩⟩⟩⟩⟩⟩⟩⟩
  have s7 := same_new (o := .lst [V.ref a1, .ref a2, .ref a3, .ref a4, .ref a5, .ref a6]) n7
  have s6 := (same_new (o := ExO (.ref c6) a6) n6).trans s7
  have s5 := (same_new (o := ExO (.ref c5) a5) n5).trans s6
  have s4 := (same_new (o := ExO (.ref c4) a4) n4).trans s5
  have s3 := (same_new (o := ExO (.ref c3) a3) n3).trans s4
  have s2 := (same_new (o := ExO (.ref c2) a2) n2).trans s3
  have s1 := (same_new (o := ExO (.ref c1) a1) n1).trans s2
  have G6 := (gd_new T.h_c6).mono s7
  have G5 := (gd_new T.h_c5).mono s6
  have G4 := (gd_new T.h_c4).mono s5
  have G3 := (gd_new T.h_c3).mono s4
  have G2 := (gd_new T.h_c2).mono s3
  have G1 := (gd_new T.h_c1).mono s2
  have D3 := drw_mono s1 D2
  refine for_err upd_same ?_ fun v => ?_
  · intro x hx D' nx
    obtain ⟨b, C, rfl, hb, iC, kv, kr, kn⟩ := mem6 G1 G2 G3 G4 G5 G6 hx
    refine ⟨_, rfl, b, C, _, _, true, rfl, .ty _, iC, .inl hb, kv, _, rfl, iteF ?_⟩
    refine ⟨_, rfl, b, C, _, _, true, rfl, .own R, iC, .inl hb, kr, _, rfl, iteF ?_⟩
    refine ⟨_, rfl, b, C, _, _, false, rfl, .own d1, iC, .inl hb, kn, _, rfl, iteF ?_⟩
    exact nx
  clear G1 G2 G3 G4 G5 G6 s1 s2 s3 s4 s5 s6 s7
  refine ⟨_, rfl, fun b1 n1 => ⟨_, rfl, fun b2 n2 => ⟨_, rfl, fun b3 n3 => ⟨_, rfl, fun b4 n4 => ⟨_, rfl, fun b5 n5 => ⟨by show 5 ≤ sizeLine; decide, fun p2 n7 => ⟨p2, rfl, ⟨_, SqL.of upd_same⟩, ?_⟩⟩⟩⟩⟩⟩⟩
  have s7 := same_new (o := .lst [V.ref b1, .ref b2, .ref b3, .ref b4, .ref b5]) n7
  have s5 := (same_new (o := ExO (.ref d5) b5) n5).trans s7
  have s4 := (same_new (o := ExO (.ref d4) b4) n4).trans s5
  have s3 := (same_new (o := ExO (.ref d3) b3) n3).trans s4
  have s2 := (same_new (o := ExO (.ref d2) b2) n2).trans s3
  have s1 := (same_new (o := ExO (.ref d1) b1) n1).trans s2
  have G5 := (gd_new T.h_d5).mono s7
  have G4 := (gd_new T.h_d4).mono s5
  have G3 := (gd_new T.h_d3).mono s4
  have G2 := (gd_new T.h_d2).mono s3
  have G1 := (gd_new T.h_d1).mono s2
  have D4 := drw_mono s1 D3
  refine for_err upd_same ?_ fun v2 => ?_
  · intro x hx D' nx
    obtain ⟨b, C, rfl, hb, iC, kv, kr, kn⟩ := mem5 G1 G2 G3 G4 G5 hx
    refine ⟨_, rfl, b, C, _, _, true, rfl, .own R, iC, .inl hb, kr, _, rfl, iteF ?_⟩
    refine ⟨_, rfl, b, C, _, _, false, rfl, .own c5, iC, .inl hb, kn, _, rfl, iteF ?_⟩
    exact nx
  clear G1 G2 G3 G4 G5 s1 s2 s3 s4 s5 s7
  refine ⟨_, rfl, by show 6 ≤ sizeLine; decide, fun p3 np3 => ⟨st, gr, ce, p3, _, _, rfl, upd_same, by decide, by decide, ?_, drw_mono (same_new np3) D4, by decide, fun i2 n H4 hi2 D5 _ => ?_⟩⟩
  · obtain ⟨gs, _, hg⟩ := D4.g
    exact Ne.symm (ne_of_none hg np3)
  obtain ⟨fn, sn⟩ := n_ok hi2
  refine ⟨_, rfl, (by decide : 1 ≤ 1000), fun b1 n1 => ⟨b1, n, rfl, fn, upd_same, fun x1 m1 k1 => ⟨rfl, _, rfl, (by decide : 1 ≤ 1000), fun b2 n2 => ⟨b2, n, rfl, fn, upd_same, fun x2 m2 k2 => ⟨rfl, ?_⟩⟩⟩⟩⟩
  refine ⟨_, rfl, (by decide : 1 ≤ 1000), fun b3 n3 => ⟨b3, n, rfl, fn, upd_same, fun x3 m3 k3 => ⟨rfl, _, rfl, (by decide : 1 ≤ 1000), fun b4 n4 => ⟨b4, n, rfl, fn, upd_same, fun x4 m4 k4 => ⟨rfl, ?_⟩⟩⟩⟩⟩
  refine ⟨by show 4 ≤ sizeLine; decide, fun p4 n7 => ⟨p4, rfl, ⟨_, SqL.of upd_same⟩, ?_⟩⟩
  have s7 := same_new (o := .lst [V.ref b1, .ref b2, .ref b3, .ref b4]) n7
  have s4 := (same_mk (u := exd x4 [("at", n)]) (o' := exo b4 e4 (some x4)) n4 m4).trans s7
  have s3 := (same_mk (u := exd x3 [("at", n)]) (o' := exo b3 e3 (some x3)) n3 m3).trans s4
  have s2 := (same_mk (u := exd x2 [("at", n)]) (o' := exo b2 e2 (some x2)) n2 m2).trans s3
  have G4 := (gf_new (n := n) T.h_e4 T.n4 k4).mono s7
  have G3 := (gf_new (n := n) T.h_e3 T.n3 k3).mono s4
  have G2 := (gf_new (n := n) T.h_e2 T.n2 k2).mono s3
  have G1 := (gf_new (n := n) T.h_e1 T.n1 k1).mono s2
  refine for_err upd_same ?_ fun v3 => ?_
  · intro x hx D' nx
    obtain ⟨b, C, d, fs, rfl, hb, hd, hl, iC, no, kr, kn⟩ := mem4 G1 G2 G3 G4 hx
    have ea : ExAt K _ b C := .inr (.inr ⟨d, fs, hb, hd⟩)
    refine ⟨_, rfl, b, C, d, fs, n, rfl, iC, no, hb, hd, hl, _, rfl, sn, _, rfl, iteNS rfl ?_⟩
    refine ⟨_, rfl, b, C, _, _, true, rfl, .own R, iC, ea, kr, _, rfl, iteF ?_⟩
    refine ⟨_, rfl, b, C, _, _, false, rfl, .own m, iC, ea, kn, _, rfl, iteF ?_⟩
    exact nx
  clear G1 G2 G3 G4 s2 s3 s4 s7
  refine ⟨_, rfl, (by decide : 1 ≤ 1000), fun bm nm => ⟨bm, n, rfl, fn, upd_same, fun xm mm km => ⟨rfl, ?_⟩⟩⟩
  refine ⟨_, rfl, (by decide : 2 ≤ 1000), fun bg ng => ⟨bg, .str "frame", n, rfl, ⟨"frame", by decide +kernel, .inl rfl⟩, fn, upd_same, fun xg mm2 kg => ⟨rfl, _, _, rfl, ?_⟩⟩⟩
  have sg := same_mk2 (u := exd xg [("word", .str "frame")]) (o' := exo bg g (some xg)) (u' := exd xg [("birth", n), ("word", .str "frame")]) ng mm2
  obtain ⟨b, C, d, fs, eb, hb, hd, hl, iC, no, kr, kn⟩ := (gf_new (n := n) T.h_m T.n5 km).mono sg
  cases eb
  refine ⟨_, rfl, bm, C, d, fs, n, rfl, iC, no, hb, hd, hl, _, rfl, sn, _, rfl, iteNS rfl ?_⟩
  refine ⟨_, rfl, bg, g, xg, [("birth", n), ("word", .str "frame")], .str "frame", rfl, T.h_g.ec.i, T.n6, by rw [upd_ne (Ne.symm kg)]; exact upd_same, upd_same, by first | rfl | with_unfolding_all rfl, rfl, _, rfl, iteNS rfl ?_⟩
  refine ⟨_, rfl, bg, g, xg, [("birth", n), ("word", .str "frame")], n, rfl, T.h_g.ec.i, T.n7, by rw [upd_ne (Ne.symm kg)]; exact upd_same, upd_same, by simp [List.lookup], _, rfl, sn, _, rfl, iteNS rfl ?_⟩
  refine ⟨_, rfl, bm, C, _, _, true, rfl, .own R, iC, .inr (.inr ⟨d, fs, hb, hd⟩), kr, _, rfl, iteT ?_⟩
  refine ⟨_, rfl, bg, g, _, _, true, rfl, .own R, T.h_g.ec.i, .inr (.inr ⟨xg, [("birth", n), ("word", .str "frame")], by rw [upd_ne (Ne.symm kg)]; exact upd_same, upd_same⟩), T.h_g.r, _, rfl, iteT ?_⟩
  refine ⟨_, rfl, bm, C, _, _, false, rfl, .own g, iC, .inr (.inr ⟨d, fs, hb, hd⟩), kn, _, rfl, ?_⟩
  exact q _
end
end Kt

namespace Kt
open PySem PySem.Spec PyProof.Rows L2 Exv Dr
/-- the facts of an error's class, as the top's end gives them -/
structure XF (K : PySem.W.Frag) (R N C : Addr) : Prop where
  h1 : PySem.W.isClsIn K C = true
  h2 : PySem.W.findIn K (.ref C) "__getattribute__" = some (some (.builtin "BaseException.__getattribute__"))
  h3 : PySem.W.findIn K (.ref C) "__getattr__" = some none
  h4 : PySem.W.subIn K (.ref C) (.type "BaseException") = some true
  h5 : PySem.W.hasDictIn K C = true
  h6 : PySem.W.findIn K (.ref C) "__class__" = some (some (.builtin "object.__class__"))
  h7 : PySem.W.mroIn K C (.type "object") = some true
  kp : PySem.W.keepIn K (.ref C) = true
  r : PySem.W.kitOne K (.ref C) (.ref R) = some true
  n : PySem.W.kitOne K (.ref C) (.ref N) = some false
structure NF (K : PySem.W.Frag) (R N C : Addr) : Prop where
  x : XF K R N C
  e : PySem.W.excIn K C veM "ValueError.__new__" = true
  v : PySem.W.kitOne K (.ref C) (.type "ValueError") = some true
structure IF (K : PySem.W.Frag) (R N C fI : Addr) : Prop where
  x : XF K R N C
  cls : ∃ nm q N bs bm sn sub ab col dd k0 k1 k2 k3 k5, K.lookup C = some (excClassObj nm q C N bs bm true sn sub ab col dd k0 k1 k2 k3 k5 "ValueError.__new__") ∧ PySem.HandSPX.refsVE bm = true
  sa : PySem.W.findIn K (.ref C) "__setattr__" = some (some (.builtin "object.__setattr__"))
  ty : PySem.W.typeIn K (.ref C) = some (.type "type")
  iC : PySem.W.findIn K (.ref C) "__init__" = some (some (.ref fI))
  tI : PySem.W.typeIn K (.ref fI) = some (.type "function")
theorem if_of {K : PySem.W.Frag} {R N C fI : Addr} {nm q : Str} {NS : Addr} {bs bm : List Value} {sn : List Str} {sub : List Value} {ab : Bool} {col : Option Bool} {dd : Option Addr} {k0 k1 k2 k3 k5 : Option Value} (x : XF K R N C)
    (cl : K.lookup C = some (excClassObj nm q C NS bs bm true sn sub ab col dd k0 k1 k2 k3 k5 "ValueError.__new__")) (re : PySem.HandSPX.refsVE bm = true) (sa : PySem.W.findIn K (.ref C) "__setattr__" = some (some (.builtin "object.__setattr__")))
    (ty : PySem.W.typeIn K (.ref C) = some (.type "type")) (iC : PySem.W.findIn K (.ref C) "__init__" = some (some (.ref fI))) (tI : PySem.W.typeIn K (.ref fI) = some (.type "function")) : IF K R N C fI :=
  ⟨x, ⟨nm, q, NS, bs, bm, sn, sub, ab, col, dd, k0, k1, k2, k3, k5, cl, re⟩, sa, ty, iC, tI⟩
theorem exi_of {K : PySem.W.Frag} {R N C : Addr} (x : XF K R N C) (hn : PySem.W.specialIn K (.builtin "object.__class__") "__get__" = some (some (.builtin "getset_descriptor.__get__"))) (ht : PySem.W.takesIn K (.builtin "object.__class__") = some true) : ExI K C :=
  ⟨x.h1, x.h2, x.h3, x.h4, x.h5, x.h6, hn, ht, x.h7⟩
theorem all_mk {P : Program} {w : World} {K : PySem.W.Frag} {h : Heap} {mg : Str → Option Value} {fa : Addr} (X : K.In h) (G : h.Ns mainGlobals mg) (hfa : mg "law" = some (.ref fa))
    {R c1 c2 c3 c4 c5 c6 d1 d2 d3 d4 d5 e1 e2 e3 e4 m g i1 i2 i3 i4 i5 i6 fB fL fD fP fW : Addr} {fi1 fi2 fi3 fi4 fi5 fi6 fdfB fdfL fdfD fdfP fdfW : FuncData}
    (aR : PySem.W.nsIn K mainGlobals "ReturnError" = some (some (.ref R)))
    (zI : PySem.W.nsIn K mainGlobals "isinstance" = some none)
    (zV : PySem.W.nsIn K mainGlobals "ValueError" = some none)
    (zA : PySem.W.nsIn K mainGlobals "abs" = some none)
    (zT : PySem.W.nsIn K mainGlobals "int" = some none)
    (zL : PySem.W.nsIn K mainGlobals "len" = some none)
    (a_c1 : PySem.W.nsIn K mainGlobals "BadExpression" = some (some (.ref c1)))
    (a_c2 : PySem.W.nsIn K mainGlobals "BadMoment" = some (some (.ref c2)))
    (a_c3 : PySem.W.nsIn K mainGlobals "BadMost" = some (some (.ref c3)))
    (a_c4 : PySem.W.nsIn K mainGlobals "BadPath" = some (some (.ref c4)))
    (a_c5 : PySem.W.nsIn K mainGlobals "BadProgram" = some (some (.ref c5)))
    (a_c6 : PySem.W.nsIn K mainGlobals "Misfit" = some (some (.ref c6)))
    (a_d1 : PySem.W.nsIn K mainGlobals "NoBill" = some (some (.ref d1)))
    (a_d2 : PySem.W.nsIn K mainGlobals "NoName" = some (some (.ref d2)))
    (a_d3 : PySem.W.nsIn K mainGlobals "NotOver" = some (some (.ref d3)))
    (a_d4 : PySem.W.nsIn K mainGlobals "NotTold" = some (some (.ref d4)))
    (a_d5 : PySem.W.nsIn K mainGlobals "Unlike" = some (some (.ref d5)))
    (a_e1 : PySem.W.nsIn K mainGlobals "BadDeeds" = some (some (.ref e1)))
    (a_e2 : PySem.W.nsIn K mainGlobals "BadJournal" = some (some (.ref e2)))
    (a_e3 : PySem.W.nsIn K mainGlobals "BadRow" = some (some (.ref e3)))
    (a_e4 : PySem.W.nsIn K mainGlobals "BadText" = some (some (.ref e4)))
    (a_m : PySem.W.nsIn K mainGlobals "TooMany" = some (some (.ref m)))
    (a_g : PySem.W.nsIn K mainGlobals "Gone" = some (some (.ref g)))
    (rd : PySem.W.readsIn K R (.type "type") = true)
    (ga : PySem.W.specialIn K (.ref R) "__getattribute__" = some (some (.builtin "type.__getattribute__")))
    (ini : PySem.W.findCls K (.ref R) (.type "type") "__init__" = some (.val (.builtin "ValueError.__init__")))
    (hn : PySem.W.specialIn K (.builtin "object.__class__") "__get__" = some (some (.builtin "getset_descriptor.__get__")))
    (ht : PySem.W.takesIn K (.builtin "object.__class__") = some true)
    (n_c1 : NF K R d1 c1)
    (n_c2 : NF K R d1 c2)
    (n_c3 : NF K R d1 c3)
    (n_c4 : NF K R d1 c4)
    (n_c5 : NF K R d1 c5)
    (n_c6 : NF K R d1 c6)
    (n_d1 : NF K R c5 d1)
    (n_d2 : NF K R c5 d2)
    (n_d3 : NF K R c5 d3)
    (n_d4 : NF K R c5 d4)
    (n_d5 : NF K R c5 d5)
    (n_e1 : IF K R m e1 i1)
    (n_e2 : IF K R m e2 i2)
    (n_e3 : IF K R m e3 i3)
    (n_e4 : IF K R m e4 i4)
    (n_m : IF K R g m i5)
    (n_g : IF K R m g i6)
    (F_i1 : Fun K "__init__" "BadDeeds.__init__" sDeeds i1 fi1)
    (F_i2 : Fun K "__init__" "BadJournal.__init__" sJournal i2 fi2)
    (F_i3 : Fun K "__init__" "BadRow.__init__" sRow i3 fi3)
    (F_i4 : Fun K "__init__" "BadText.__init__" sText i4 fi4)
    (F_i5 : Fun K "__init__" "TooMany.__init__" sMany i5 fi5)
    (F_i6 : Fun K "__init__" "Gone.__init__" sGone i6 fi6)
    (o_e1 : PySem.W.findIn K (.ref e1) "at" = some none)
    (o_e2 : PySem.W.findIn K (.ref e2) "at" = some none)
    (o_e3 : PySem.W.findIn K (.ref e3) "at" = some none)
    (o_e4 : PySem.W.findIn K (.ref e4) "at" = some none)
    (o_m : PySem.W.findIn K (.ref m) "most" = some none)
    (o_g1 : PySem.W.findIn K (.ref g) "word" = some none)
    (o_g2 : PySem.W.findIn K (.ref g) "birth" = some none)
    (a_fB : PySem.W.nsIn K mainGlobals "_law_begun" = some (some (.ref fB)))
    (F_fB : Fun K "_law_begun" "_law_begun" sBegun fB fdfB)
    (a_fL : PySem.W.nsIn K mainGlobals "_law_blended" = some (some (.ref fL)))
    (F_fL : Fun K "_law_blended" "_law_blended" sBlended fL fdfL)
    (a_fD : PySem.W.nsIn K mainGlobals "_law_draw" = some (some (.ref fD)))
    (F_fD : Fun K "_law_draw" "_law_draw" sDraw fD fdfD)
    (a_fP : PySem.W.nsIn K mainGlobals "_law_pick" = some (some (.ref fP)))
    (F_fP : Fun K "_law_pick" "_law_pick" sPick fP fdfP)
    (a_fW : PySem.W.nsIn K mainGlobals "law" = some (some (.ref fW)))
    (F_fW : Fun K "law" "law" sLaw fW fdfW) :
    ∃ fd : FuncData, (∀ (s : Shared) (v : Value), BindsTo s fd ⟨[v], []⟩ [("script", v)]) ∧ ∀ base : Heap, K.In base → base.Ns mainGlobals mg → FnOk P w K mg base CX0 4 fa fd ["script"] (spLaw K) := by
  have e := hfa.symm.trans (PySem.W.mg_of X G a_fW)
  cases e
  have b1 : ∀ {x qual : Str} {st : Stmt}, True := trivial
  have TR : ReI K R := ⟨rd, ga, ini⟩
  have gR := PySem.W.mg_of X G aR
  have gI := PySem.W.mg_none_of X G zT
  have t_c1 : NC K mg R d1 "BadExpression" c1 := ⟨PySem.W.mg_of X G a_c1, n_c1.e, n_c1.x.kp, exi_of n_c1.x hn ht, n_c1.v, n_c1.x.r, n_c1.x.n⟩
  have t_c2 : NC K mg R d1 "BadMoment" c2 := ⟨PySem.W.mg_of X G a_c2, n_c2.e, n_c2.x.kp, exi_of n_c2.x hn ht, n_c2.v, n_c2.x.r, n_c2.x.n⟩
  have t_c3 : NC K mg R d1 "BadMost" c3 := ⟨PySem.W.mg_of X G a_c3, n_c3.e, n_c3.x.kp, exi_of n_c3.x hn ht, n_c3.v, n_c3.x.r, n_c3.x.n⟩
  have t_c4 : NC K mg R d1 "BadPath" c4 := ⟨PySem.W.mg_of X G a_c4, n_c4.e, n_c4.x.kp, exi_of n_c4.x hn ht, n_c4.v, n_c4.x.r, n_c4.x.n⟩
  have t_c5 : NC K mg R d1 "BadProgram" c5 := ⟨PySem.W.mg_of X G a_c5, n_c5.e, n_c5.x.kp, exi_of n_c5.x hn ht, n_c5.v, n_c5.x.r, n_c5.x.n⟩
  have t_c6 : NC K mg R d1 "Misfit" c6 := ⟨PySem.W.mg_of X G a_c6, n_c6.e, n_c6.x.kp, exi_of n_c6.x hn ht, n_c6.v, n_c6.x.r, n_c6.x.n⟩
  have t_d1 : NC K mg R c5 "NoBill" d1 := ⟨PySem.W.mg_of X G a_d1, n_d1.e, n_d1.x.kp, exi_of n_d1.x hn ht, n_d1.v, n_d1.x.r, n_d1.x.n⟩
  have t_d2 : NC K mg R c5 "NoName" d2 := ⟨PySem.W.mg_of X G a_d2, n_d2.e, n_d2.x.kp, exi_of n_d2.x hn ht, n_d2.v, n_d2.x.r, n_d2.x.n⟩
  have t_d3 : NC K mg R c5 "NotOver" d3 := ⟨PySem.W.mg_of X G a_d3, n_d3.e, n_d3.x.kp, exi_of n_d3.x hn ht, n_d3.v, n_d3.x.r, n_d3.x.n⟩
  have t_d4 : NC K mg R c5 "NotTold" d4 := ⟨PySem.W.mg_of X G a_d4, n_d4.e, n_d4.x.kp, exi_of n_d4.x hn ht, n_d4.v, n_d4.x.r, n_d4.x.n⟩
  have t_d5 : NC K mg R c5 "Unlike" d5 := ⟨PySem.W.mg_of X G a_d5, n_d5.e, n_d5.x.kp, exi_of n_d5.x hn ht, n_d5.v, n_d5.x.r, n_d5.x.n⟩
  have t_e1 : IC K mg R m "BadDeeds" e1 i1 := ⟨⟨PySem.W.mg_of X G a_e1, ⟨n_e1.cls, n_e1.sa, n_e1.x.h4, n_e1.ty, n_e1.x.kp⟩, exi_of n_e1.x hn ht⟩, n_e1.iC, n_e1.tI, n_e1.x.r, n_e1.x.n⟩
  have t_e2 : IC K mg R m "BadJournal" e2 i2 := ⟨⟨PySem.W.mg_of X G a_e2, ⟨n_e2.cls, n_e2.sa, n_e2.x.h4, n_e2.ty, n_e2.x.kp⟩, exi_of n_e2.x hn ht⟩, n_e2.iC, n_e2.tI, n_e2.x.r, n_e2.x.n⟩
  have t_e3 : IC K mg R m "BadRow" e3 i3 := ⟨⟨PySem.W.mg_of X G a_e3, ⟨n_e3.cls, n_e3.sa, n_e3.x.h4, n_e3.ty, n_e3.x.kp⟩, exi_of n_e3.x hn ht⟩, n_e3.iC, n_e3.tI, n_e3.x.r, n_e3.x.n⟩
  have t_e4 : IC K mg R m "BadText" e4 i4 := ⟨⟨PySem.W.mg_of X G a_e4, ⟨n_e4.cls, n_e4.sa, n_e4.x.h4, n_e4.ty, n_e4.x.kp⟩, exi_of n_e4.x hn ht⟩, n_e4.iC, n_e4.tI, n_e4.x.r, n_e4.x.n⟩
  have t_m : IC K mg R g "TooMany" m i5 := ⟨⟨PySem.W.mg_of X G a_m, ⟨n_m.cls, n_m.sa, n_m.x.h4, n_m.ty, n_m.x.kp⟩, exi_of n_m.x hn ht⟩, n_m.iC, n_m.tI, n_m.x.r, n_m.x.n⟩
  have t_g : IC K mg R m "Gone" g i6 := ⟨⟨PySem.W.mg_of X G a_g, ⟨n_g.cls, n_g.sa, n_g.x.h4, n_g.ty, n_g.x.kp⟩, exi_of n_g.x hn ht⟩, n_g.iC, n_g.tI, n_g.x.r, n_g.x.n⟩
  have b_i1 : Binds K fi1 ["self", "at"] [] := F_i1.binds fun _ _ _ _ _ _ us hl => match us, hl with | [_, _], _ => rfl
  have b_i2 : Binds K fi2 ["self", "at"] [] := F_i2.binds fun _ _ _ _ _ _ us hl => match us, hl with | [_, _], _ => rfl
  have b_i3 : Binds K fi3 ["self", "at"] [] := F_i3.binds fun _ _ _ _ _ _ us hl => match us, hl with | [_, _], _ => rfl
  have b_i4 : Binds K fi4 ["self", "at"] [] := F_i4.binds fun _ _ _ _ _ _ us hl => match us, hl with | [_, _], _ => rfl
  have b_B : Binds K fdfB ["script"] [] := F_fB.binds fun _ _ _ _ _ _ us hl => match us, hl with | [_], _ => rfl
  have b_L : Binds K fdfL ["state"] [] := F_fL.binds fun _ _ _ _ _ _ us hl => match us, hl with | [_], _ => rfl
  have b_D : Binds K fdfD ["state", "room"] [] := F_fD.binds fun _ _ _ _ _ _ us hl => match us, hl with | [_, _], _ => rfl
  have b_P : Binds K fdfP ["state", "some"] [] := F_fP.binds fun _ _ _ _ _ _ us hl => match us, hl with | [_, _], _ => rfl
  have b_W := F_fW.binds (ps := ["script"]) fun _ _ _ _ _ _ us hl => match us, hl with | [_], _ => rfl
  obtain ⟨oc, od, kV, doc, pm, an, cdv, ct, osl, eW, _, _⟩ := id F_fW.ex
  refine ⟨fdfW, fun s v => by subst eW; exact .of_eq rfl, fun base _ _ => ?_⟩
  have GD : FnOk P w K mg base CX0 2 fD fdfD ["state", "room"] spDraw := ok_draw F_fD F_fL b_L F_fL.kp (PySem.W.mg_of X G a_fL) gI
  exact ok_law F_fW
    { gR := gR, gI := PySem.W.mg_none_of X G zI, gV := PySem.W.mg_none_of X G zV,
      h_c1 := t_c1, h_c2 := t_c2, h_c3 := t_c3, h_c4 := t_c4, h_c5 := t_c5, h_c6 := t_c6, h_d1 := t_d1, h_d2 := t_d2, h_d3 := t_d3, h_d4 := t_d4, h_d5 := t_d5, h_e1 := t_e1, h_e2 := t_e2, h_e3 := t_e3, h_e4 := t_e4, h_m := t_m, h_g := t_g,
      b1 := b_i1, b2 := b_i2, b3 := b_i3, b4 := b_i4, b5 := kb_many F_i5, b6 := kb_gone F_i6,
      f1 := ok_deeds F_i1 t_e1.ec TR gR o_e1, f2 := ok_journal F_i2 t_e2.ec TR gR o_e2, f3 := ok_row F_i3 t_e3.ec TR gR o_e3, f4 := ok_text F_i4 t_e4.ec TR gR o_e4, f5 := ok_many F_i5 t_m.ec TR gR o_m, f6 := ok_gone F_i6 t_g.ec TR gR o_g1 o_g2,
      n1 := o_e1, n2 := o_e2, n3 := o_e3, n4 := o_e4, n5 := o_m, n6 := o_g1, n7 := o_g2,
      gB := PySem.W.mg_of X G a_fB, kB := F_fB.kp, bB := b_B, h_fB := ok_begun F_fB (PySem.W.mg_none_of X G zA),
      gP := PySem.W.mg_of X G a_fP, kP := F_fP.kp, bP := b_P, h_fP := ok_pick F_fP GD b_D F_fD.kp (PySem.W.mg_of X G a_fD) (PySem.W.mg_none_of X G zL) }
end Kt

open PySem PySem.W PyProof.Rows
set_option maxRecDepth 100000 in
set_option maxHeartbeats 0 in
theorem PySem.Challenge.cw_returnsdue_k78_errors_made_holds : PySem.Challenge.rw_returnsdue_k78_errors_made.Holds := by
  w_on; o_law; k_head; (case hw => w_witness2)
  k_fill
  refine L2.walk_of (l := PySem.Challenge.rw_returnsdue_k78_errors_made) (n := 63) (k := 4) (x := "script") (CX := fun _ => L2.CX0) (sp := fun w => Kt.spLaw _) rfl (by decide) rfl ⟨rfl, by decide, by decide⟩ (fun w h Y => PySem.W.kIn_of Y) ?F (fun _ _ a ns hl _ hS => ⟨a, ns, rfl, hS, hl, fun _ => rfl⟩) fun _ _ _ _ _ z => z
  case F =>
    intro w mg fa h KX G hmg
    refine' Kt.all_mk KX G hmg ?aR ?zI ?zV ?zA ?zT ?zL ?a_c1 ?a_c2 ?a_c3 ?a_c4 ?a_c5 ?a_c6 ?a_d1 ?a_d2 ?a_d3 ?a_d4 ?a_d5 ?a_e1 ?a_e2 ?a_e3 ?a_e4 ?a_m ?a_g ?rd ?ga ?ini ?hn ?ht ?n_c1 ?n_c2 ?n_c3 ?n_c4 ?n_c5 ?n_c6 ?n_d1 ?n_d2 ?n_d3 ?n_d4 ?n_d5 ?n_e1 ?n_e2 ?n_e3 ?n_e4 ?n_m ?n_g ?F_i1 ?F_i2 ?F_i3 ?F_i4 ?F_i5 ?F_i6 ?o_e1 ?o_e2 ?o_e3 ?o_e4 ?o_m ?o_g1 ?o_g2 ?a_fB ?F_fB ?a_fL ?F_fL ?a_fD ?F_fD ?a_fP ?F_fP ?a_fW ?F_fW
    (case aR => k_is)
    (case zI => k_is)
    (case zV => k_is)
    (case zA => k_is)
    (case zT => k_is)
    (case zL => k_is)
    (case a_c1 => k_is)
    (case a_c2 => k_is)
    (case a_c3 => k_is)
    (case a_c4 => k_is)
    (case a_c5 => k_is)
    (case a_c6 => k_is)
    (case a_d1 => k_is)
    (case a_d2 => k_is)
    (case a_d3 => k_is)
    (case a_d4 => k_is)
    (case a_d5 => k_is)
    (case a_e1 => k_is)
    (case a_e2 => k_is)
    (case a_e3 => k_is)
    (case a_e4 => k_is)
    (case a_m => k_is)
    (case a_g => k_is)
    (case rd => k_is)
    (case ga => k_is)
    (case ini => k_is)
    (case hn => k_is)
    (case ht => k_is)
    case n_c1 =>
      refine' ⟨⟨?h1, ?h2, ?h3, ?h4, ?h5, ?h6, ?h7, ?kp, ?r, ?n⟩, ?e, ?v⟩
      (case h1 => k_is); (case h2 => k_is); (case h3 => k_is); (case h4 => k_is); (case h5 => k_is); (case h6 => k_is); (case h7 => k_is); (case kp => k_is); (case r => first | rfl | kernel_rfl); (case n => first | rfl | kernel_rfl); (case e => k_exc); (case v => first | rfl | kernel_rfl)
    case n_c2 =>
      refine' ⟨⟨?h1, ?h2, ?h3, ?h4, ?h5, ?h6, ?h7, ?kp, ?r, ?n⟩, ?e, ?v⟩
      (case h1 => k_is); (case h2 => k_is); (case h3 => k_is); (case h4 => k_is); (case h5 => k_is); (case h6 => k_is); (case h7 => k_is); (case kp => k_is); (case r => first | rfl | kernel_rfl); (case n => first | rfl | kernel_rfl); (case e => k_exc); (case v => first | rfl | kernel_rfl)
    case n_c3 =>
      refine' ⟨⟨?h1, ?h2, ?h3, ?h4, ?h5, ?h6, ?h7, ?kp, ?r, ?n⟩, ?e, ?v⟩
      (case h1 => k_is); (case h2 => k_is); (case h3 => k_is); (case h4 => k_is); (case h5 => k_is); (case h6 => k_is); (case h7 => k_is); (case kp => k_is); (case r => first | rfl | kernel_rfl); (case n => first | rfl | kernel_rfl); (case e => k_exc); (case v => first | rfl | kernel_rfl)
    case n_c4 =>
      refine' ⟨⟨?h1, ?h2, ?h3, ?h4, ?h5, ?h6, ?h7, ?kp, ?r, ?n⟩, ?e, ?v⟩
      (case h1 => k_is); (case h2 => k_is); (case h3 => k_is); (case h4 => k_is); (case h5 => k_is); (case h6 => k_is); (case h7 => k_is); (case kp => k_is); (case r => first | rfl | kernel_rfl); (case n => first | rfl | kernel_rfl); (case e => k_exc); (case v => first | rfl | kernel_rfl)
    case n_c5 =>
      refine' ⟨⟨?h1, ?h2, ?h3, ?h4, ?h5, ?h6, ?h7, ?kp, ?r, ?n⟩, ?e, ?v⟩
      (case h1 => k_is); (case h2 => k_is); (case h3 => k_is); (case h4 => k_is); (case h5 => k_is); (case h6 => k_is); (case h7 => k_is); (case kp => k_is); (case r => first | rfl | kernel_rfl); (case n => first | rfl | kernel_rfl); (case e => k_exc); (case v => first | rfl | kernel_rfl)
    case n_c6 =>
      refine' ⟨⟨?h1, ?h2, ?h3, ?h4, ?h5, ?h6, ?h7, ?kp, ?r, ?n⟩, ?e, ?v⟩
      (case h1 => k_is); (case h2 => k_is); (case h3 => k_is); (case h4 => k_is); (case h5 => k_is); (case h6 => k_is); (case h7 => k_is); (case kp => k_is); (case r => first | rfl | kernel_rfl); (case n => first | rfl | kernel_rfl); (case e => k_exc); (case v => first | rfl | kernel_rfl)
    case n_d1 =>
      refine' ⟨⟨?h1, ?h2, ?h3, ?h4, ?h5, ?h6, ?h7, ?kp, ?r, ?n⟩, ?e, ?v⟩
      (case h1 => k_is); (case h2 => k_is); (case h3 => k_is); (case h4 => k_is); (case h5 => k_is); (case h6 => k_is); (case h7 => k_is); (case kp => k_is); (case r => first | rfl | kernel_rfl); (case n => first | rfl | kernel_rfl); (case e => k_exc); (case v => first | rfl | kernel_rfl)
    case n_d2 =>
      refine' ⟨⟨?h1, ?h2, ?h3, ?h4, ?h5, ?h6, ?h7, ?kp, ?r, ?n⟩, ?e, ?v⟩
      (case h1 => k_is); (case h2 => k_is); (case h3 => k_is); (case h4 => k_is); (case h5 => k_is); (case h6 => k_is); (case h7 => k_is); (case kp => k_is); (case r => first | rfl | kernel_rfl); (case n => first | rfl | kernel_rfl); (case e => k_exc); (case v => first | rfl | kernel_rfl)
    case n_d3 =>
      refine' ⟨⟨?h1, ?h2, ?h3, ?h4, ?h5, ?h6, ?h7, ?kp, ?r, ?n⟩, ?e, ?v⟩
      (case h1 => k_is); (case h2 => k_is); (case h3 => k_is); (case h4 => k_is); (case h5 => k_is); (case h6 => k_is); (case h7 => k_is); (case kp => k_is); (case r => first | rfl | kernel_rfl); (case n => first | rfl | kernel_rfl); (case e => k_exc); (case v => first | rfl | kernel_rfl)
    case n_d4 =>
      refine' ⟨⟨?h1, ?h2, ?h3, ?h4, ?h5, ?h6, ?h7, ?kp, ?r, ?n⟩, ?e, ?v⟩
      (case h1 => k_is); (case h2 => k_is); (case h3 => k_is); (case h4 => k_is); (case h5 => k_is); (case h6 => k_is); (case h7 => k_is); (case kp => k_is); (case r => first | rfl | kernel_rfl); (case n => first | rfl | kernel_rfl); (case e => k_exc); (case v => first | rfl | kernel_rfl)
    case n_d5 =>
      refine' ⟨⟨?h1, ?h2, ?h3, ?h4, ?h5, ?h6, ?h7, ?kp, ?r, ?n⟩, ?e, ?v⟩
      (case h1 => k_is); (case h2 => k_is); (case h3 => k_is); (case h4 => k_is); (case h5 => k_is); (case h6 => k_is); (case h7 => k_is); (case kp => k_is); (case r => first | rfl | kernel_rfl); (case n => first | rfl | kernel_rfl); (case e => k_exc); (case v => first | rfl | kernel_rfl)
    case n_e1 =>
      refine' Kt.if_of ⟨?h1, ?h2, ?h3, ?h4, ?h5, ?h6, ?h7, ?kp, ?r, ?n⟩ ?cl ?re ?sa ?ty ?iC ?tI
      (case cl => k_is); (case re => decide +kernel); (case h1 => k_is); (case h2 => k_is); (case h3 => k_is); (case h4 => k_is); (case h5 => k_is); (case h6 => k_is); (case h7 => k_is); (case kp => k_is); (case r => first | rfl | kernel_rfl); (case n => first | rfl | kernel_rfl); (case sa => k_is); (case ty => k_is); (case iC => k_is); (case tI => k_is)
    case n_e2 =>
      refine' Kt.if_of ⟨?h1, ?h2, ?h3, ?h4, ?h5, ?h6, ?h7, ?kp, ?r, ?n⟩ ?cl ?re ?sa ?ty ?iC ?tI
      (case cl => k_is); (case re => decide +kernel); (case h1 => k_is); (case h2 => k_is); (case h3 => k_is); (case h4 => k_is); (case h5 => k_is); (case h6 => k_is); (case h7 => k_is); (case kp => k_is); (case r => first | rfl | kernel_rfl); (case n => first | rfl | kernel_rfl); (case sa => k_is); (case ty => k_is); (case iC => k_is); (case tI => k_is)
    case n_e3 =>
      refine' Kt.if_of ⟨?h1, ?h2, ?h3, ?h4, ?h5, ?h6, ?h7, ?kp, ?r, ?n⟩ ?cl ?re ?sa ?ty ?iC ?tI
      (case cl => k_is); (case re => decide +kernel); (case h1 => k_is); (case h2 => k_is); (case h3 => k_is); (case h4 => k_is); (case h5 => k_is); (case h6 => k_is); (case h7 => k_is); (case kp => k_is); (case r => first | rfl | kernel_rfl); (case n => first | rfl | kernel_rfl); (case sa => k_is); (case ty => k_is); (case iC => k_is); (case tI => k_is)
    case n_e4 =>
      refine' Kt.if_of ⟨?h1, ?h2, ?h3, ?h4, ?h5, ?h6, ?h7, ?kp, ?r, ?n⟩ ?cl ?re ?sa ?ty ?iC ?tI
      (case cl => k_is); (case re => decide +kernel); (case h1 => k_is); (case h2 => k_is); (case h3 => k_is); (case h4 => k_is); (case h5 => k_is); (case h6 => k_is); (case h7 => k_is); (case kp => k_is); (case r => first | rfl | kernel_rfl); (case n => first | rfl | kernel_rfl); (case sa => k_is); (case ty => k_is); (case iC => k_is); (case tI => k_is)
    case n_m =>
      refine' Kt.if_of ⟨?h1, ?h2, ?h3, ?h4, ?h5, ?h6, ?h7, ?kp, ?r, ?n⟩ ?cl ?re ?sa ?ty ?iC ?tI
      (case cl => k_is); (case re => decide +kernel); (case h1 => k_is); (case h2 => k_is); (case h3 => k_is); (case h4 => k_is); (case h5 => k_is); (case h6 => k_is); (case h7 => k_is); (case kp => k_is); (case r => first | rfl | kernel_rfl); (case n => first | rfl | kernel_rfl); (case sa => k_is); (case ty => k_is); (case iC => k_is); (case tI => k_is)
    case n_g =>
      refine' Kt.if_of ⟨?h1, ?h2, ?h3, ?h4, ?h5, ?h6, ?h7, ?kp, ?r, ?n⟩ ?cl ?re ?sa ?ty ?iC ?tI
      (case cl => k_is); (case re => decide +kernel); (case h1 => k_is); (case h2 => k_is); (case h3 => k_is); (case h4 => k_is); (case h5 => k_is); (case h6 => k_is); (case h7 => k_is); (case kp => k_is); (case r => first | rfl | kernel_rfl); (case n => first | rfl | kernel_rfl); (case sa => k_is); (case ty => k_is); (case iC => k_is); (case tI => k_is)
    case F_i1 =>
      refine' L2.fun_mk (st := Kt.sDeeds) ?l ?c ?k
      (case l => k_is); (case c => k_is); (case k => k_is)
    case F_i2 =>
      refine' L2.fun_mk (st := Kt.sJournal) ?l ?c ?k
      (case l => k_is); (case c => k_is); (case k => k_is)
    case F_i3 =>
      refine' L2.fun_mk (st := Kt.sRow) ?l ?c ?k
      (case l => k_is); (case c => k_is); (case k => k_is)
    case F_i4 =>
      refine' L2.fun_mk (st := Kt.sText) ?l ?c ?k
      (case l => k_is); (case c => k_is); (case k => k_is)
    case F_i5 =>
      refine' L2.fun_mk (st := Kt.sMany) ?l ?c ?k
      (case l => k_is); (case c => k_is); (case k => k_is)
    case F_i6 =>
      refine' L2.fun_mk (st := Kt.sGone) ?l ?c ?k
      (case l => k_is); (case c => k_is); (case k => k_is)
    (case o_e1 => k_is)
    (case o_e2 => k_is)
    (case o_e3 => k_is)
    (case o_e4 => k_is)
    (case o_m => k_is)
    (case o_g1 => k_is)
    (case o_g2 => k_is)
    (case a_fB => k_is)
    case F_fB =>
      refine' L2.fun_mk (st := Dr.sBegun) ?l ?c ?k
      (case l => k_is); (case c => k_is); (case k => k_is)
    (case a_fL => k_is)
    case F_fL =>
      refine' L2.fun_mk (st := Dr.sBlended) ?l ?c ?k
      (case l => k_is); (case c => k_is); (case k => k_is)
    (case a_fD => k_is)
    case F_fD =>
      refine' L2.fun_mk (st := Dr.sDraw) ?l ?c ?k
      (case l => k_is); (case c => k_is); (case k => k_is)
    (case a_fP => k_is)
    case F_fP =>
      refine' L2.fun_mk (st := Dr.sPick) ?l ?c ?k
      (case l => k_is); (case c => k_is); (case k => k_is)
    (case a_fW => k_is)
    case F_fW =>
      refine' L2.fun_mk (st := Dr.sLaw) ?l ?c ?k
      (case l => k_is); (case c => k_is); (case k => k_is)

