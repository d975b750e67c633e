/- Walks: Date; the reference's Valid, Number and Weekday. -/
import Derived.Test.YtmcndbfnjpkelaaDd
import Derived.Test.YtmcndbfnjpkelaaDl
namespace Go.Proofs.Ytmcndbfnjpkelaa
set_option linter.unusedVariables false
set_option linter.unusedSimpArgs false
open Go.RowKit Go.Lib

set_option maxHeartbeats 1000000 in
set_option maxRecDepth 100000 in
theorem date_ok (y m d : Int) (w : World) (h : VD y m d) :
    Calls Try.prog 24 #[.int .i64 (numD y m d)] w fun v w' => v = .returned (.tuple #[.agg #[.int .i64 y, .int .i64 m, .int .i64 d], .int .i64 0]) ∧ Gro w w' := by
  have HD := fun W => Lib.hid (dateOf_any y m d W h)
  have HL := fun W => Lib.hid (lastNumber_any W)
  obtain ⟨n0, n1⟩ := num_bd h
  clear h
  generalize numD y m d = n at *
  go_enter Try.func24, Try.ntmps24
  go_wp2_with (first | (go_at_call 63; ((with_reducible refine (HL _).out.mono ?_); rintro e w' ⟨rfl, rfl⟩)) | (go_at_call 64; ((with_reducible refine (HD _).out.mono ?_); rintro e w1 ⟨rfl, hk1⟩; have hb1 := hk1.below; obtain ⟨hc1, hf1⟩ := bcell hb1; simp only [World.size_alloc, World.size_setCell] at hc1 hf1; have hz1 := hb1.size; simp only [World.size_alloc, World.size_setCell] at hz1)))
  (try simp only [Exit.inBlock, Exit.then])
  refine bodyPost_ret (v := .tuple #[.agg #[.int .i64 y, .int .i64 m, .int .i64 d], .int .i64 0]) ?_ rfl ⟨rfl, by (repeat (first | with_reducible rfl | with_reducible exact Below.refl _ _ | with_reducible exact gro_refl _ | with_reducible refine kc_drew ?_ | with_reducible refine kc_drewN _ ?_ | with_reducible refine kf_drew ?_ | with_reducible refine kf_drewN _ ?_ | with_reducible refine kc_below hb1 ?_ | ((with_reducible refine kc_new ?_ ?_); (focus (first | with_reducible rfl | (simp only [World.size_alloc, World.size_setCell, World.size_drew, size_drewN]; done))); (focus (first | rfl | (simp; done)))) | ((with_reducible refine kc_set0 ?_ ?_); (focus (first | rfl | (simp; done)))) | with_reducible refine ct_drew ?_ | with_reducible refine ct_drewN _ ?_ | with_reducible refine ct_below hb1 ?_ | ((with_reducible refine ct_new ?_ ?_); (focus (first | with_reducible rfl | (simp only [World.size_alloc, World.size_setCell, World.size_drew, size_drewN]; done))); (focus (first | rfl | (simp; done)))) | with_reducible refine ct_set _ _ ?_ | with_reducible refine ct_alloc _ ?_ | ((with_reducible refine kc_set ?_ ?_); (focus (first | (intro hx; injection hx; omega) | (simp; done)))) | with_reducible refine kc_alloc _ ?_ | ((with_reducible refine kf_new ?_ _); (focus (first | with_reducible rfl | (simp only [World.size_alloc, World.size_setCell, World.size_drew, size_drewN]; done)))) | with_reducible refine kf_set _ _ ?_ | ((with_reducible refine kf_below hb1 ?_ ?_); (focus (simp only [World.size_alloc, World.size_setCell, World.size_drew, size_drewN]; omega))) | ((with_reducible refine kf_alloc _ ?_ ?_); (focus (first | (simp only [World.size_alloc, World.size_setCell, World.size_drew, size_drewN]; omega) | (dsimp only; omega)))) | with_reducible refine bl_alloc ?_ _ | with_reducible refine bl_drew ?_ | with_reducible refine bl_drewN ?_ _ | ((with_reducible refine bl_set ?_ ?_ _); (focus (dsimp only; omega))) | with_reducible refine bl_call ?_ hb1 | with_reducible refine gro_alloc ?_ _ | with_reducible refine gro_drew ?_ | with_reducible refine gro_drewN ?_ _ | ((with_reducible refine gro_set ?_ ?_ _); (focus (first | omega | (dsimp only; omega)))) | with_reducible refine gro_call ?_ hk1))⟩
  have hres : Try.f24.results = #[.cell 2 23, .tmp 3] := by kernel_rfl
  simp only [results, hres]
  go_simp

set_option maxHeartbeats 1000000 in
set_option maxRecDepth 100000 in
theorem date_lo (n : Int) (w : World) (h : n < 0) :
    Calls Try.prog 24 #[.int .i64 n] w fun v w' => v = .returned (.tuple #[.agg #[.int .i64 0, .int .i64 0, .int .i64 0], .int .i64 1]) ∧ Gro w w' := by
  have HL := fun W => Lib.hid (lastNumber_any W)
  go_enter Try.func24, Try.ntmps24
  go_wp2_with (go_at_call 63; ((with_reducible refine (HL _).out.mono ?_); rintro e w' ⟨rfl, rfl⟩))
  (try simp only [Exit.inBlock, Exit.then])
  refine bodyPost_ret (v := .tuple #[.agg #[.int .i64 0, .int .i64 0, .int .i64 0], .int .i64 1]) ?_ rfl ⟨rfl, by (repeat (first | with_reducible rfl | with_reducible exact Below.refl _ _ | with_reducible exact gro_refl _ | with_reducible refine kc_drew ?_ | with_reducible refine kc_drewN _ ?_ | with_reducible refine kf_drew ?_ | with_reducible refine kf_drewN _ ?_ | ((with_reducible refine kc_new ?_ ?_); (focus (first | with_reducible rfl | (simp only [World.size_alloc, World.size_setCell, World.size_drew, size_drewN]; done))); (focus (first | rfl | (simp; done)))) | ((with_reducible refine kc_set0 ?_ ?_); (focus (first | rfl | (simp; done)))) | with_reducible refine ct_drew ?_ | with_reducible refine ct_drewN _ ?_ | ((with_reducible refine ct_new ?_ ?_); (focus (first | with_reducible rfl | (simp only [World.size_alloc, World.size_setCell, World.size_drew, size_drewN]; done))); (focus (first | rfl | (simp; done)))) | with_reducible refine ct_set _ _ ?_ | with_reducible refine ct_alloc _ ?_ | ((with_reducible refine kc_set ?_ ?_); (focus (first | (intro hx; injection hx; omega) | (simp; done)))) | with_reducible refine kc_alloc _ ?_ | ((with_reducible refine kf_new ?_ _); (focus (first | with_reducible rfl | (simp only [World.size_alloc, World.size_setCell, World.size_drew, size_drewN]; done)))) | with_reducible refine kf_set _ _ ?_ | ((with_reducible refine kf_alloc _ ?_ ?_); (focus (first | (simp only [World.size_alloc, World.size_setCell, World.size_drew, size_drewN]; omega) | (dsimp only; omega)))) | with_reducible refine bl_alloc ?_ _ | with_reducible refine bl_drew ?_ | with_reducible refine bl_drewN ?_ _ | ((with_reducible refine bl_set ?_ ?_ _); (focus (dsimp only; omega))) | with_reducible refine gro_alloc ?_ _ | with_reducible refine gro_drew ?_ | with_reducible refine gro_drewN ?_ _ | ((with_reducible refine gro_set ?_ ?_ _); (focus (first | omega | (dsimp only; omega))))))⟩
  have hres : Try.f24.results = #[.cell 2 23, .tmp 3] := by kernel_rfl
  simp only [results, hres]
  go_simp

set_option maxHeartbeats 1000000 in
set_option maxRecDepth 100000 in
theorem date_hi (n : Int) (w : World) (h : 3652058 < n) :
    Calls Try.prog 24 #[.int .i64 n] w fun v w' => v = .returned (.tuple #[.agg #[.int .i64 0, .int .i64 0, .int .i64 0], .int .i64 1]) ∧ Gro w w' := by
  have HL := fun W => Lib.hid (lastNumber_any W)
  have h0 : ¬ n < 0 := by omega
  go_enter Try.func24, Try.ntmps24
  go_wp2_with (go_at_call 63; ((with_reducible refine (HL _).out.mono ?_); rintro e w' ⟨rfl, rfl⟩))
  (try simp only [Exit.inBlock, Exit.then])
  refine bodyPost_ret (v := .tuple #[.agg #[.int .i64 0, .int .i64 0, .int .i64 0], .int .i64 1]) ?_ rfl ⟨rfl, by (repeat (first | with_reducible rfl | with_reducible exact Below.refl _ _ | with_reducible exact gro_refl _ | with_reducible refine kc_drew ?_ | with_reducible refine kc_drewN _ ?_ | with_reducible refine kf_drew ?_ | with_reducible refine kf_drewN _ ?_ | ((with_reducible refine kc_new ?_ ?_); (focus (first | with_reducible rfl | (simp only [World.size_alloc, World.size_setCell, World.size_drew, size_drewN]; done))); (focus (first | rfl | (simp; done)))) | ((with_reducible refine kc_set0 ?_ ?_); (focus (first | rfl | (simp; done)))) | with_reducible refine ct_drew ?_ | with_reducible refine ct_drewN _ ?_ | ((with_reducible refine ct_new ?_ ?_); (focus (first | with_reducible rfl | (simp only [World.size_alloc, World.size_setCell, World.size_drew, size_drewN]; done))); (focus (first | rfl | (simp; done)))) | with_reducible refine ct_set _ _ ?_ | with_reducible refine ct_alloc _ ?_ | ((with_reducible refine kc_set ?_ ?_); (focus (first | (intro hx; injection hx; omega) | (simp; done)))) | with_reducible refine kc_alloc _ ?_ | ((with_reducible refine kf_new ?_ _); (focus (first | with_reducible rfl | (simp only [World.size_alloc, World.size_setCell, World.size_drew, size_drewN]; done)))) | with_reducible refine kf_set _ _ ?_ | ((with_reducible refine kf_alloc _ ?_ ?_); (focus (first | (simp only [World.size_alloc, World.size_setCell, World.size_drew, size_drewN]; omega) | (dsimp only; omega)))) | with_reducible refine bl_alloc ?_ _ | with_reducible refine bl_drew ?_ | with_reducible refine bl_drewN ?_ _ | ((with_reducible refine bl_set ?_ ?_ _); (focus (dsimp only; omega))) | with_reducible refine gro_alloc ?_ _ | with_reducible refine gro_drew ?_ | with_reducible refine gro_drewN ?_ _ | ((with_reducible refine gro_set ?_ ?_ _); (focus (first | omega | (dsimp only; omega))))))⟩
  have hres : Try.f24.results = #[.cell 2 23, .tmp 3] := by kernel_rfl
  simp only [results, hres]
  go_simp

set_option maxHeartbeats 4000000 in
set_option maxRecDepth 100000 in
theorem refValid_any (y m d : Int) (w : World) :
    Calls Try.prog 25 #[.agg #[.int .i64 y, .int .i64 m, .int .i64 d]] w fun v w' => v = .returned (.bool (decide (VD y m d))) ∧ Gro w w' := by
  have HI := fun n a b W => Lib.hid (in_any n a b W)
  have HI1 := fun W => HI y 1 9999 W
  have HI2 := fun W => HI m 1 12 W
  by_cases h1 : 1 ≤ y ∧ y ≤ 9999
  · have e1 : decide (1 ≤ y ∧ y ≤ 9999) = true := decide_eq_true h1
    by_cases h2 : 1 ≤ m ∧ m ≤ 12
    · have e2 : decide (1 ≤ m ∧ m ≤ 12) = true := decide_eq_true h2
      have HP := fun W => Lib.hid (refLeap_any y W (by omega))
      have HL := fun W => Lib.hid (refLength_any m (leapB y) W h2.1 h2.2)
      have E : Hid (decide (1 ≤ d ∧ d ≤ monD m (leapB y)) = decide (VD y m d)) := decide_eq_decide.2 ⟨fun h => ⟨h1, h2, h⟩, fun h => h.2.2⟩
      generalize leapB y = b at *
      generalize monD m b = k at *
      clear h1 h2
      have e3 : ∃ r, decide (1 ≤ d ∧ d ≤ k) = r := ⟨_, rfl⟩
      obtain ⟨r, e3⟩ := e3
      rw [e3] at E
      go_enter Try.func25, Try.ntmps25
      go_wp2_with fail
      go_region_held3 (fun w' => w'.cell? ⟨w.heap.size, 0, none⟩ = some (.int .i64 y) ∧ w'.cell? ⟨w.heap.size, 1, none⟩ = some (.int .i64 m) ∧ w'.cell? ⟨w.heap.size, 2, none⟩ = some (.int .i64 d)) (((try dsimp only); (repeat' apply And.intro)) <;> (with_reducible repeat (first | exact r0 | exact r1 | exact r2 | refine kc_drew ?_ | refine kc_drewN _ ?_ | refine kc_below hb2 ?_ | (refine kc_new ?_ ?_; (focus first | rfl | (simp only [World.size_alloc, World.size_setCell, World.size_drew, size_drewN]; done)); (focus first | rfl | (simp; done))) | (refine kc_set0 ?_ ?_; (focus first | rfl | (simp; done))) | exact ct_of (by assumption) | refine ct_drew ?_ | refine ct_drewN _ ?_ | refine ct_below hb2 ?_ | (refine ct_new ?_ ?_; (focus first | rfl | (simp only [World.size_alloc, World.size_setCell, World.size_drew, size_drewN]; done)); (focus first | rfl | (simp; done))) | refine ct_set _ _ ?_ | refine ct_alloc _ ?_ | (refine kc_set ?_ ?_; (focus first | (intro hx; injection hx; omega) | (simp; done))) | refine kc_alloc _ ?_))) (first | (go_at_call 65; ((with_reducible refine (HI _ _ _ _).out.mono ?_); rintro v w' ⟨rfl, rfl⟩)) | (go_at_call 32; ((with_reducible refine (HP _).out.mono ?_); rintro v w' ⟨rfl, rfl⟩)) | (go_at_call 31; ((with_reducible refine (HL _).out.mono ?_); rintro v w2 ⟨rfl, hk2⟩; have hb2 := hk2.below; have ⟨r0, r1, r2⟩ : w2.cell? ⟨w.heap.size, 0, none⟩ = some (.int .i64 y) ∧ w2.cell? ⟨w.heap.size, 1, none⟩ = some (.int .i64 m) ∧ w2.cell? ⟨w.heap.size, 2, none⟩ = some (.int .i64 d) := (by and_intros <;> (with_reducible repeat (first | exact r0 | exact r1 | exact r2 | refine kc_drew ?_ | refine kc_drewN _ ?_ | refine kc_below hb2 ?_ | (refine kc_new ?_ ?_; (focus first | rfl | (simp only [World.size_alloc, World.size_setCell, World.size_drew, size_drewN]; done)); (focus first | rfl | (simp; done))) | (refine kc_set0 ?_ ?_; (focus first | rfl | (simp; done))) | exact ct_of (by assumption) | refine ct_drew ?_ | refine ct_drewN _ ?_ | refine ct_below hb2 ?_ | (refine ct_new ?_ ?_; (focus first | rfl | (simp only [World.size_alloc, World.size_setCell, World.size_drew, size_drewN]; done)); (focus first | rfl | (simp; done))) | refine ct_set _ _ ?_ | refine ct_alloc _ ?_ | (refine kc_set ?_ ?_; (focus first | (intro hx; injection hx; omega) | (simp; done))) | refine kc_alloc _ ?_))); have hz2 := hb2.size; (try simp only [World.size_alloc, World.size_setCell, World.size_drew, size_drewN] at hz2); have hG : Gro w w2 := (by (with_reducible repeat (first | exact hG | exact gro_refl _ | refine gro_alloc ?_ _ | refine gro_drew ?_ | refine gro_drewN ?_ _ | (refine gro_set ?_ ?_ _; (focus first | omega | (dsimp only; omega))) | refine gro_call ?_ hk2))))))
      all_goals go_wp2_with fail
      all_goals go_ret
      all_goals exact ⟨ret_bool E.out, by (with_reducible repeat (first | exact hG | exact gro_refl _ | refine gro_alloc ?_ _ | refine gro_drew ?_ | refine gro_drewN ?_ _ | (refine gro_set ?_ ?_ _; (focus first | omega | (dsimp only; omega)))))⟩
    · have e2 : decide (1 ≤ m ∧ m ≤ 12) = false := decide_eq_false h2
      rw [e1] at HI1
      rw [e2] at HI2
      have E : Hid (false = decide (VD y m d)) := (decide_eq_false fun h => h2 h.2.1).symm
      clear h1 h2
      go_enter Try.func25, Try.ntmps25
      go_wp2_with fail
      go_quiet ((first | (go_at_call_of 65 (Value.int .i64 y); exact qt_same (HI1 _).out) | (go_at_call_of 65 (Value.int .i64 m); exact qt_same (HI2 _).out)))
      go_wp2_with fail
      go_ret
      exact ⟨ret_bool E.out, by (with_reducible repeat (first | exact gro_refl _ | refine gro_alloc ?_ _ | refine gro_drew ?_ | refine gro_drewN ?_ _ | (refine gro_set ?_ ?_ _; (focus first | omega | (dsimp only; omega)))))⟩
  · have e1 : decide (1 ≤ y ∧ y ≤ 9999) = false := decide_eq_false h1
    rw [e1] at HI1
    have E : Hid (false = decide (VD y m d)) := (decide_eq_false fun h => h1 h.1).symm
    clear h1
    go_enter Try.func25, Try.ntmps25
    go_wp2_with fail
    go_quiet ((first | (go_at_call_of 65 (Value.int .i64 y); exact qt_same (HI1 _).out) | (go_at_call_of 65 (Value.int .i64 m); exact qt_same (HI2 _).out)))
    go_wp2_with fail
    go_ret
    exact ⟨ret_bool E.out, by (with_reducible repeat (first | exact gro_refl _ | refine gro_alloc ?_ _ | refine gro_drew ?_ | refine gro_drewN ?_ _ | (refine gro_set ?_ ?_ _; (focus first | omega | (dsimp only; omega)))))⟩

end Go.Proofs.Ytmcndbfnjpkelaa
