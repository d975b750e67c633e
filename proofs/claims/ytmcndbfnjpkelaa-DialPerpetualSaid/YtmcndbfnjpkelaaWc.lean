/- The two centuries of the perpetual calendar, plainly; Set and Shows of the right face. -/
import Derived.Test.YtmcndbfnjpkelaaWb
import Derived.Test.YtmcndbfnjpkelaaFc
namespace Go.Proofs.Ytmcndbfnjpkelaa
set_option linter.unusedVariables false
set_option linter.unusedSimpArgs false
open Go.RowKit Go.Lib

theorem low_is : numD 1900 3 1 = 693654 := by decide
theorem high_is : numD 2100 2 28 = 766702 := by decide
theorem perp_year {y m d : Int} (h : VD y m d) (h1 : 693654 ≤ numD y m d) (h2 : numD y m d ≤ 766702) : (y = 1900 ∧ 3 ≤ m) ∨ (1901 ≤ y ∧ y ≤ 2099) ∨ (y = 2100 ∧ m ≤ 2) := by
  have a := num_lo h
  have e1 : nyD 1900 = 693595 := by decide
  have e2 : nyD 2101 = 767009 := by decide
  have hy1 : 1900 ≤ y := by
    rcases Int.lt_or_le y 1900 with hh | hh
    · have := ny_lt hh
      have := ny_step y
      have := bI_bd (leapB y)
      omega
    · exact hh
  have hy2 : y ≤ 2100 := by
    rcases Int.lt_or_le 2100 y with hh | hh
    · have := ny_lt (y := 2100) (z := y) hh
      have e3 : nyD 2100 = 766644 := by decide
      have := bI_bd (leapB 2100)
      omega
    · exact hh
  by_cases e : y = 1900
  · subst e
    left
    refine ⟨rfl, ?_⟩
    rcases Int.lt_or_le m 3 with hh | hh
    · have hb := bef_lt (leapB 1900) h.2.1.1 hh (by omega)
      have e5 : befD 3 (leapB 1900) = 59 := by decide
      have := h.2.2
      unfold numD at h1
      omega
    · exact hh
  · by_cases e' : y = 2100
    · subst e'
      right; right
      refine ⟨rfl, ?_⟩
      rcases Int.lt_or_le 2 m with hh | hh
      · have hb := bef_lt (leapB 2100) (m := 2) (by omega) hh h.2.1.2
        have e5 : befD 2 (leapB 2100) + monD 2 (leapB 2100) = 59 := by decide
        have e3 : nyD 2100 = 766644 := by decide
        have := h.2.2
        unfold numD at h2
        omega
      · exact hh
    · right; left; omega
/-- The face's place in its four years, of a date of these centuries. -/
theorem perp_pos {y m d : Int} (h : VD y m d) (h1 : 693654 ≤ numD y m d) (h2 : numD y m d ≤ 766702) : VF d m (y % 4) ∧ posD d m (y % 4) = (numD y m d + 381) % 1461 := by
  have hv : VF d m (y % 4) := by
    refine ⟨h.2.1, by omega, h.2.2.1, ?_⟩
    have := h.2.2.2
    by_cases he : monD m (decide (y % 4 = 0)) = monD m (leapB y)
    · omega
    · obtain ⟨rfl, hb⟩ := mon_differ he
      have := mon_bad hb
      omega
  refine ⟨hv, ?_⟩
  have hp := pos_bd hv
  rcases perp_year h h1 h2 with ⟨rfl, hm⟩ | ⟨hy1, hy2⟩ | ⟨rfl, hm⟩
  · have e : befD m (decide ((1900 : Int) % 4 = 0)) = befD m (leapB 1900) + 1 := by
      rcases twelve h.2.1.1 h.2.1.2 with rfl | rfl | rfl | rfl | rfl | rfl | rfl | rfl | rfl | rfl | rfl | rfl <;> first | omega | decide
    have e1 : nyD 1900 = 693595 := by decide
    have e2 : befL ((1900 : Int) % 4) = 0 := by decide
    unfold posD numD at *
    omega
  · have e : leapB y = decide (y % 4 = 0) := by
      unfold leapB
      exact decide_eq_decide.2 (by omega)
    have c := befL_eq (l := y % 4) (by omega) (by omega)
    unfold posD numD nyD at *
    rw [e] at *
    by_cases hs : y ≤ 2000
    · have s1 : (y - 1) / 100 = 19 := by omega
      have s2 : (y - 1) / 400 = 4 := by omega
      rw [s1, s2] at *
      omega
    · have s1 : (y - 1) / 100 = 20 := by omega
      have s2 : (y - 1) / 400 = 5 := by omega
      rw [s1, s2] at *
      omega
  · have e : befD m (decide ((2100 : Int) % 4 = 0)) = befD m (leapB 2100) := by
      rcases (show m = 1 ∨ m = 2 by have := h.2.1.1; omega) with rfl | rfl <;> decide
    have e1 : nyD 2100 = 766644 := by decide
    have e2 : befL ((2100 : Int) % 4) = 0 := by decide
    unfold posD numD at *
    omega
theorem perp_bad {c : Int} (hb : badY c) (h1 : 1901 ≤ c) (h2 : c ≤ 2099) : False := by
  have h4 := hb.1
  have hl := hb.2
  unfold leapB at hl
  have := of_decide_eq_false hl
  omega
theorem perp_right {n0 N : Int} (h1 : 693654 ≤ n0) (h2 : n0 + N ≤ 766702) : WrongP n0 N (-1) := by
  refine .inl ⟨rfl, fun c hc1 hc2 hb hw => ?_⟩
  have e1 : feb 1900 = 693653 := by decide
  have e2 : feb 2100 = 766702 := by decide
  have c1 : 1901 ≤ c := by
    rcases Int.lt_or_le c 1901 with hh | hh
    · rcases Int.lt_or_eq_of_le (show c ≤ 1900 by omega) with hq | hq
      · have := feb_lt hq; omega
      · subst hq; omega
    · exact hh
  have c2 : c ≤ 2099 := by
    rcases Int.lt_or_le 2099 c with hh | hh
    · rcases Int.lt_or_eq_of_le (show 2100 ≤ c by omega) with hq | hq
      · have := feb_lt hq; omega
      · subst hq; omega
    · exact hh
  exact perp_bad hb c1 c2
theorem perp_wrong {n0 : Int} (h1 : 693654 ≤ n0) (h2 : n0 ≤ 766702) : WrongP n0 (766702 + 1 - n0) (766702 + 1 - n0) := by
  have e1 : feb 1900 = 693653 := by decide
  have e2 : feb 2100 = 766702 := by decide
  refine .inr ⟨2100, by omega, by unfold badY; decide, by omega, by omega, by omega, fun c' hc1 hl hb => ?_⟩
  rcases Int.lt_or_le 1900 c' with hh | hh
  · exact (perp_bad hb (by omega) (by omega)).elim
  · rcases Int.lt_or_eq_of_le hh with hq | hq
    · have := feb_lt hq; omega
    · subst hq; omega

set_option maxHeartbeats 1000000 in
set_option maxRecDepth 100000 in
theorem set_ok (y m d o : Int) (w : World) (h : VD y m d) (ho : 0 ≤ o ∧ o ≤ 58) :
    Calls Try.prog 33 #[.agg #[.int .i64 y, .int .i64 m, .int .i64 d], .int .i64 o] w fun e w' => e = .returned (.tuple #[.agg #[.int .i64 d, .int .i64 m, .int .i64 (y % 4), .int .i64 ((numD y m d + 1) % 7), .int .i64 o], .int .i64 0]) ∧ Gro w w' := by
  have HV := fun W => Lib.hid (validDate_any y m d W)
  rw [decide_eq_true h] at HV
  have HM := fun W => Lib.hid (validMoon_any o W)
  rw [decide_eq_true ho] at HM
  have HF := fun W => Lib.hid (faceOf_any y m d o W h)
  clear h ho
  generalize (numD y m d + 1) % 7 = u at *
  generalize y % 4 = l at *
  go_enter Try.func33, Try.ntmps33
  go_wp2_with (first | (go_at_call 60; ((with_reducible refine (HV _).out.mono ?_); rintro v w1 ⟨rfl, hk1⟩; have hb1 := hk1.below; have ⟨q0, q1, q2, q3, q4, q5, q6, q7⟩ : w1.cell? ⟨w.heap.size, 0, none⟩ = some (.int .i64 y) ∧ w1.cell? ⟨w.heap.size, 1, none⟩ = some (.int .i64 m) ∧ w1.cell? ⟨w.heap.size, 2, none⟩ = some (.int .i64 d) ∧ w1.cell? ⟨w.heap.size + 1, 0, none⟩ = some (.int .i64 0) ∧ w1.cell? ⟨w.heap.size + 1, 1, none⟩ = some (.int .i64 0) ∧ w1.cell? ⟨w.heap.size + 1, 2, none⟩ = some (.int .i64 0) ∧ w1.cell? ⟨w.heap.size + 1, 3, none⟩ = some (.int .i64 0) ∧ w1.cell? ⟨w.heap.size + 1, 4, none⟩ = some (.int .i64 0) := (by and_intros <;> (with_reducible repeat (first | refine kc_drew ?_ | refine kc_drewN _ ?_ | refine kc_setb (by dsimp only; omega) ?_ | refine kc_seto (by dsimp only; omega) ?_ | refine kc_below hb1 ?_ | (refine kc_new ?_ ?_; (focus first | rfl | (simp only [World.size_alloc, World.size_setCell, World.size_drew, size_drewN]; done)); (focus first | rfl | (simp; done))) | (refine kc_set0 ?_ ?_; (focus first | rfl | (simp; done))) | exact ct_of (by assumption) | refine ct_drew ?_ | refine ct_drewN _ ?_ | refine ct_set _ _ ?_ | refine ct_below hb1 ?_ | (refine ct_new ?_ ?_; (focus first | rfl | (simp only [World.size_alloc, World.size_setCell, World.size_drew, size_drewN]; done)); (focus first | rfl | (simp; done))) | refine ct_alloc _ ?_ | refine kc_alloc _ ?_))); have ⟨q8, q9, q10, q11, q12⟩ : w1.frozen? ⟨w.heap.size + 1, 0, none⟩ = false ∧ w1.frozen? ⟨w.heap.size + 1, 1, none⟩ = false ∧ w1.frozen? ⟨w.heap.size + 1, 2, none⟩ = false ∧ w1.frozen? ⟨w.heap.size + 1, 3, none⟩ = false ∧ w1.frozen? ⟨w.heap.size + 1, 4, none⟩ = false := (by and_intros <;> (with_reducible repeat (first | refine kf_drew ?_ | refine kf_drewN _ ?_ | (refine kf_new ?_ _; (focus first | rfl | (simp only [World.size_alloc, World.size_setCell, World.size_drew, size_drewN]; done))) | refine kf_set _ _ ?_ | (refine kf_below hb1 ?_ ?_; (focus simp only [World.size_alloc, World.size_setCell, World.size_drew, size_drewN]; omega)) | (refine kf_alloc _ ?_ ?_; (focus first | (simp only [World.size_alloc, World.size_setCell, World.size_drew, size_drewN]; omega) | (dsimp only; omega)))))); have hz1 := hb1.size; (try simp only [World.size_alloc, World.size_setCell, World.size_drew, size_drewN] at hz1); have g0 : w.heap.size < w1.heap.size := (by omega); have g1 : w.heap.size + 1 < w1.heap.size := (by omega); have hG : Gro w w1 := (by (with_reducible repeat (first | exact gro_refl _ | refine gro_alloc ?_ _ | refine gro_drew ?_ | refine gro_drewN ?_ _ | (refine gro_set ?_ ?_ _; (focus first | omega | (dsimp only; omega))) | refine gro_call ?_ hk1))))) | (go_at_call 68; ((with_reducible refine (HM _).out.mono ?_); rintro e w' ⟨rfl, rfl⟩)) | (go_at_call 69; ((with_reducible refine (HF _).out.mono ?_); rintro v w2 ⟨rfl, hk2⟩; have hb2 := hk2.below; have ⟨q0, q1, q2, q3, q4⟩ : w2.cell? ⟨w.heap.size + 1, 0, none⟩ = some (.int .i64 0) ∧ w2.cell? ⟨w.heap.size + 1, 1, none⟩ = some (.int .i64 0) ∧ w2.cell? ⟨w.heap.size + 1, 2, none⟩ = some (.int .i64 0) ∧ w2.cell? ⟨w.heap.size + 1, 3, none⟩ = some (.int .i64 0) ∧ w2.cell? ⟨w.heap.size + 1, 4, none⟩ = some (.int .i64 0) := (by and_intros <;> (with_reducible repeat (first | exact q0 | exact q1 | exact q2 | exact q3 | exact q4 | exact q5 | exact q6 | exact q7 | exact q8 | exact q9 | exact q10 | exact q11 | exact q12 | refine kc_drew ?_ | refine kc_drewN _ ?_ | refine kc_setb (by dsimp only; omega) ?_ | refine kc_seto (by dsimp only; omega) ?_ | refine kc_below hb2 ?_ | (refine kc_new ?_ ?_; (focus first | rfl | (simp only [World.size_alloc, World.size_setCell, World.size_drew, size_drewN]; done)); (focus first | rfl | (simp; done))) | (refine kc_set0 ?_ ?_; (focus first | rfl | (simp; done))) | exact ct_of (by assumption) | refine ct_drew ?_ | refine ct_drewN _ ?_ | refine ct_set _ _ ?_ | refine ct_below hb2 ?_ | (refine ct_new ?_ ?_; (focus first | rfl | (simp only [World.size_alloc, World.size_setCell, World.size_drew, size_drewN]; done)); (focus first | rfl | (simp; done))) | refine ct_alloc _ ?_ | refine kc_alloc _ ?_))); have ⟨q5, q6, q7, q8, q9⟩ : w2.frozen? ⟨w.heap.size + 1, 0, none⟩ = false ∧ w2.frozen? ⟨w.heap.size + 1, 1, none⟩ = false ∧ w2.frozen? ⟨w.heap.size + 1, 2, none⟩ = false ∧ w2.frozen? ⟨w.heap.size + 1, 3, none⟩ = false ∧ w2.frozen? ⟨w.heap.size + 1, 4, none⟩ = false := (by and_intros <;> (with_reducible repeat (first | exact q0 | exact q1 | exact q2 | exact q3 | exact q4 | exact q5 | exact q6 | exact q7 | exact q8 | exact q9 | exact q10 | exact q11 | exact q12 | refine kf_drew ?_ | refine kf_drewN _ ?_ | (refine kf_new ?_ _; (focus first | rfl | (simp only [World.size_alloc, World.size_setCell, World.size_drew, size_drewN]; done))) | refine kf_set _ _ ?_ | (refine kf_below hb2 ?_ ?_; (focus simp only [World.size_alloc, World.size_setCell, World.size_drew, size_drewN]; omega)) | (refine kf_alloc _ ?_ ?_; (focus first | (simp only [World.size_alloc, World.size_setCell, World.size_drew, size_drewN]; omega) | (dsimp only; omega)))))); have hz2 := hb2.size; (try simp only [World.size_alloc, World.size_setCell, World.size_drew, size_drewN] at hz2); have g0 : w.heap.size < w2.heap.size := (by omega); have g1 : w.heap.size + 1 < w2.heap.size := (by omega); have hG : Gro w w2 := (by (with_reducible repeat (first | exact hG | exact gro_refl _ | refine gro_alloc ?_ _ | refine gro_drew ?_ | refine gro_drewN ?_ _ | (refine gro_set ?_ ?_ _; (focus first | omega | (dsimp only; omega))) | refine gro_call ?_ hk2))))))
  (try simp only [Exit.inBlock, Exit.then])
  refine bodyPost_ret (v := .tuple #[.agg #[.int .i64 d, .int .i64 m, .int .i64 l, .int .i64 u, .int .i64 o], .int .i64 0]) ?_ rfl ⟨rfl, by (with_reducible repeat (first | exact hG | exact gro_refl _ | refine gro_alloc ?_ _ | refine gro_drew ?_ | refine gro_drewN ?_ _ | (refine gro_set ?_ ?_ _; (focus first | omega | (dsimp only; omega)))))⟩
  have hres : Try.f33.results = #[.cell 4 40, .tmp 5] := by kernel_rfl
  simp only [results, hres]
  go_simp

set_option maxHeartbeats 1000000 in
set_option maxRecDepth 100000 in
theorem shows_yes (y m d l u o : Int) (w : World) (h : VD y m d) (hf : VF d m l) (hu : u = (numD y m d + 1) % 7) (ho : 0 ≤ o ∧ o ≤ 58) :
    Calls Try.prog 34 #[.agg #[.int .i64 d, .int .i64 m, .int .i64 l, .int .i64 u, .int .i64 o], .agg #[.int .i64 y, .int .i64 m, .int .i64 d]] w fun e w' => e = .returned (.tuple #[.bool true, .int .i64 0]) ∧ Gro w w' := by
  have HV := fun W => Lib.hid (validDate_any y m d W)
  rw [decide_eq_true h] at HV
  have HK := fun W => Lib.hid (validFace_ok d m l u o W hf (by omega) ho)
  have HF := fun W => Lib.hid (faceOf_any y m d o W h)
  rw [← hu] at HF
  clear h ho hf hu
  generalize y % 4 = l2 at *
  go_enter Try.func34, Try.ntmps34
  go_wp2_with (first | (go_at_call 70; ((with_reducible refine (HK _).out.mono ?_); rintro v w1 ⟨rfl, hk1⟩; have hb1 := hk1.below; have ⟨q0, q1, q2, q3, q4, q5, q6, q7⟩ : w1.cell? ⟨w.heap.size, 0, none⟩ = some (.int .i64 d) ∧ w1.cell? ⟨w.heap.size, 1, none⟩ = some (.int .i64 m) ∧ w1.cell? ⟨w.heap.size, 2, none⟩ = some (.int .i64 l) ∧ w1.cell? ⟨w.heap.size, 3, none⟩ = some (.int .i64 u) ∧ w1.cell? ⟨w.heap.size, 4, none⟩ = some (.int .i64 o) ∧ w1.cell? ⟨w.heap.size + 1, 0, none⟩ = some (.int .i64 y) ∧ w1.cell? ⟨w.heap.size + 1, 1, none⟩ = some (.int .i64 m) ∧ w1.cell? ⟨w.heap.size + 1, 2, none⟩ = some (.int .i64 d) := (by and_intros <;> (with_reducible repeat (first | refine kc_drew ?_ | refine kc_drewN _ ?_ | refine kc_setb (by dsimp only; omega) ?_ | refine kc_seto (by dsimp only; omega) ?_ | refine kc_below hb1 ?_ | (refine kc_new ?_ ?_; (focus first | rfl | (simp only [World.size_alloc, World.size_setCell, World.size_drew, size_drewN]; done)); (focus first | rfl | (simp; done))) | (refine kc_set0 ?_ ?_; (focus first | rfl | (simp; done))) | exact ct_of (by assumption) | refine ct_drew ?_ | refine ct_drewN _ ?_ | refine ct_set _ _ ?_ | refine ct_below hb1 ?_ | (refine ct_new ?_ ?_; (focus first | rfl | (simp only [World.size_alloc, World.size_setCell, World.size_drew, size_drewN]; done)); (focus first | rfl | (simp; done))) | refine ct_alloc _ ?_ | refine kc_alloc _ ?_))); have hz1 := hb1.size; (try simp only [World.size_alloc, World.size_setCell, World.size_drew, size_drewN] at hz1); have g0 : w.heap.size < w1.heap.size := (by omega); have g1 : w.heap.size + 1 < w1.heap.size := (by omega); have hG : Gro w w1 := (by (with_reducible repeat (first | exact gro_refl _ | refine gro_alloc ?_ _ | refine gro_drew ?_ | refine gro_drewN ?_ _ | (refine gro_set ?_ ?_ _; (focus first | omega | (dsimp only; omega))) | refine gro_call ?_ hk1))))) | (go_at_call 60; ((with_reducible refine (HV _).out.mono ?_); rintro v w2 ⟨rfl, hk2⟩; have hb2 := hk2.below; have ⟨q0, q1, q2, q3, q4, q5, q6, q7⟩ : w2.cell? ⟨w.heap.size, 0, none⟩ = some (.int .i64 d) ∧ w2.cell? ⟨w.heap.size, 1, none⟩ = some (.int .i64 m) ∧ w2.cell? ⟨w.heap.size, 2, none⟩ = some (.int .i64 l) ∧ w2.cell? ⟨w.heap.size, 3, none⟩ = some (.int .i64 u) ∧ w2.cell? ⟨w.heap.size, 4, none⟩ = some (.int .i64 o) ∧ w2.cell? ⟨w.heap.size + 1, 0, none⟩ = some (.int .i64 y) ∧ w2.cell? ⟨w.heap.size + 1, 1, none⟩ = some (.int .i64 m) ∧ w2.cell? ⟨w.heap.size + 1, 2, none⟩ = some (.int .i64 d) := (by and_intros <;> (with_reducible repeat (first | exact q0 | exact q1 | exact q2 | exact q3 | exact q4 | exact q5 | exact q6 | exact q7 | refine kc_drew ?_ | refine kc_drewN _ ?_ | refine kc_setb (by dsimp only; omega) ?_ | refine kc_seto (by dsimp only; omega) ?_ | refine kc_below hb2 ?_ | (refine kc_new ?_ ?_; (focus first | rfl | (simp only [World.size_alloc, World.size_setCell, World.size_drew, size_drewN]; done)); (focus first | rfl | (simp; done))) | (refine kc_set0 ?_ ?_; (focus first | rfl | (simp; done))) | exact ct_of (by assumption) | refine ct_drew ?_ | refine ct_drewN _ ?_ | refine ct_set _ _ ?_ | refine ct_below hb2 ?_ | (refine ct_new ?_ ?_; (focus first | rfl | (simp only [World.size_alloc, World.size_setCell, World.size_drew, size_drewN]; done)); (focus first | rfl | (simp; done))) | refine ct_alloc _ ?_ | refine kc_alloc _ ?_))); have hz2 := hb2.size; (try simp only [World.size_alloc, World.size_setCell, World.size_drew, size_drewN] at hz2); have g0 : w.heap.size < w2.heap.size := (by omega); have g1 : w.heap.size + 1 < w2.heap.size := (by omega); have hG : Gro w w2 := (by (with_reducible repeat (first | exact hG | exact gro_refl _ | refine gro_alloc ?_ _ | refine gro_drew ?_ | refine gro_drewN ?_ _ | (refine gro_set ?_ ?_ _; (focus first | omega | (dsimp only; omega))) | refine gro_call ?_ hk2))))) | (go_at_call 69; ((with_reducible refine (HF _).out.mono ?_); rintro v w3 ⟨rfl, hk3⟩; have hb3 := hk3.below; have ⟨q0, q1, q2, q3, q4, q5, q6, q7⟩ : w3.cell? ⟨w.heap.size, 0, none⟩ = some (.int .i64 d) ∧ w3.cell? ⟨w.heap.size, 1, none⟩ = some (.int .i64 m) ∧ w3.cell? ⟨w.heap.size, 2, none⟩ = some (.int .i64 l) ∧ w3.cell? ⟨w.heap.size, 3, none⟩ = some (.int .i64 u) ∧ w3.cell? ⟨w.heap.size, 4, none⟩ = some (.int .i64 o) ∧ w3.cell? ⟨w.heap.size + 1, 0, none⟩ = some (.int .i64 y) ∧ w3.cell? ⟨w.heap.size + 1, 1, none⟩ = some (.int .i64 m) ∧ w3.cell? ⟨w.heap.size + 1, 2, none⟩ = some (.int .i64 d) := (by and_intros <;> (with_reducible repeat (first | exact q0 | exact q1 | exact q2 | exact q3 | exact q4 | exact q5 | exact q6 | exact q7 | refine kc_drew ?_ | refine kc_drewN _ ?_ | refine kc_setb (by dsimp only; omega) ?_ | refine kc_seto (by dsimp only; omega) ?_ | refine kc_below hb3 ?_ | (refine kc_new ?_ ?_; (focus first | rfl | (simp only [World.size_alloc, World.size_setCell, World.size_drew, size_drewN]; done)); (focus first | rfl | (simp; done))) | (refine kc_set0 ?_ ?_; (focus first | rfl | (simp; done))) | exact ct_of (by assumption) | refine ct_drew ?_ | refine ct_drewN _ ?_ | refine ct_set _ _ ?_ | refine ct_below hb3 ?_ | (refine ct_new ?_ ?_; (focus first | rfl | (simp only [World.size_alloc, World.size_setCell, World.size_drew, size_drewN]; done)); (focus first | rfl | (simp; done))) | refine ct_alloc _ ?_ | refine kc_alloc _ ?_))); have hz3 := hb3.size; (try simp only [World.size_alloc, World.size_setCell, World.size_drew, size_drewN] at hz3); have g0 : w.heap.size < w3.heap.size := (by omega); have g1 : w.heap.size + 1 < w3.heap.size := (by omega); have hG : Gro w w3 := (by (with_reducible repeat (first | exact hG | exact gro_refl _ | refine gro_alloc ?_ _ | refine gro_drew ?_ | refine gro_drewN ?_ _ | (refine gro_set ?_ ?_ _; (focus first | omega | (dsimp only; omega))) | refine gro_call ?_ hk3))))))
  go_ret2
  exact ⟨rfl, by (with_reducible repeat (first | exact hG | exact gro_refl _ | refine gro_alloc ?_ _ | refine gro_drew ?_ | refine gro_drewN ?_ _ | (refine gro_set ?_ ?_ _; (focus first | omega | (dsimp only; omega)))))⟩
end Go.Proofs.Ytmcndbfnjpkelaa
