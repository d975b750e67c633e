/- Walks of package dial on dates: validDate, numberOf, Number, Weekday, Length. -/
import Derived.Test.YtmcndbfnjpkelaaDa
namespace Go.Proofs.Ytmcndbfnjpkelaa
set_option linter.unusedVariables false
set_option linter.unusedSimpArgs false
open Go.RowKit Go.Lib

set_option maxHeartbeats 1000000 in
set_option maxRecDepth 100000 in
theorem validDate_any (y m d : Int) (w : World) :
    Calls Try.prog 60 #[.agg #[.int .i64 y, .int .i64 m, .int .i64 d]] w fun e w' => e = .returned (.bool (decide (VD y m d))) ∧ Gro w w' := by
  have HV := fun W => Lib.hid (validMonth_any y m W)
  by_cases h : (1 ≤ y ∧ y ≤ 9999) ∧ (1 ≤ m ∧ m ≤ 12)
  · rw [decide_eq_true h] at HV
    have HL := fun W => Lib.hid (lengthOf_any y m W (by omega) (by omega) (by omega))
    by_cases h1 : 1 ≤ d
    · by_cases h2 : d ≤ monD m (leapB y)
      · have E := Lib.hid (show decide (VD y m d) = true from decide_eq_true ⟨h.1, h.2, h1, h2⟩)
        have e2 : decide (d ≤ monD m (leapB y)) = true := decide_eq_true h2
        clear h
        generalize monD m (leapB y) = k at *
        go_enter Try.func60, Try.ntmps60
        go_wp2_with fail
        go_quiet ((first | (go_at_call 66; exact qt_same (HV _).out) | (go_at_call 67; exact qt_same (HL _).out)))
        go_wp2_with fail
        go_ret
        exact ⟨ret_bool E.out.symm, by (repeat (first | with_reducible rfl | with_reducible exact Below.refl _ _ | with_reducible exact gro_refl _ | with_reducible refine kc_drew ?_ | with_reducible refine kc_drewN _ ?_ | with_reducible refine kf_drew ?_ | with_reducible refine kf_drewN _ ?_ | ((with_reducible refine kc_new ?_ ?_); (focus (first | with_reducible rfl | (simp only [World.size_alloc, World.size_setCell, World.size_drew, size_drewN]; done))); (focus (first | rfl | (simp; done)))) | ((with_reducible refine kc_set0 ?_ ?_); (focus (first | rfl | (simp; done)))) | with_reducible refine ct_drew ?_ | with_reducible refine ct_drewN _ ?_ | ((with_reducible refine ct_new ?_ ?_); (focus (first | with_reducible rfl | (simp only [World.size_alloc, World.size_setCell, World.size_drew, size_drewN]; done))); (focus (first | rfl | (simp; done)))) | with_reducible refine ct_set _ _ ?_ | with_reducible refine ct_alloc _ ?_ | ((with_reducible refine kc_set ?_ ?_); (focus (first | (intro hx; injection hx; omega) | (simp; done)))) | with_reducible refine kc_alloc _ ?_ | ((with_reducible refine kf_new ?_ _); (focus (first | with_reducible rfl | (simp only [World.size_alloc, World.size_setCell, World.size_drew, size_drewN]; done)))) | with_reducible refine kf_set _ _ ?_ | ((with_reducible refine kf_alloc _ ?_ ?_); (focus (first | (simp only [World.size_alloc, World.size_setCell, World.size_drew, size_drewN]; omega) | (dsimp only; omega)))) | with_reducible refine bl_alloc ?_ _ | with_reducible refine bl_drew ?_ | with_reducible refine bl_drewN ?_ _ | ((with_reducible refine bl_set ?_ ?_ _); (focus (dsimp only; omega))) | with_reducible refine gro_alloc ?_ _ | with_reducible refine gro_drew ?_ | with_reducible refine gro_drewN ?_ _ | ((with_reducible refine gro_set ?_ ?_ _); (focus (first | omega | (dsimp only; omega))))))⟩
      · have E := Lib.hid (show decide (VD y m d) = false from decide_eq_false fun hh => h2 hh.2.2.2)
        have e2 : decide (d ≤ monD m (leapB y)) = false := decide_eq_false h2
        clear h
        generalize monD m (leapB y) = k at *
        go_enter Try.func60, Try.ntmps60
        go_wp2_with fail
        go_quiet ((first | (go_at_call 66; exact qt_same (HV _).out) | (go_at_call 67; exact qt_same (HL _).out)))
        go_wp2_with fail
        go_ret
        exact ⟨ret_bool E.out.symm, by (repeat (first | with_reducible rfl | with_reducible exact Below.refl _ _ | with_reducible exact gro_refl _ | with_reducible refine kc_drew ?_ | with_reducible refine kc_drewN _ ?_ | with_reducible refine kf_drew ?_ | with_reducible refine kf_drewN _ ?_ | ((with_reducible refine kc_new ?_ ?_); (focus (first | with_reducible rfl | (simp only [World.size_alloc, World.size_setCell, World.size_drew, size_drewN]; done))); (focus (first | rfl | (simp; done)))) | ((with_reducible refine kc_set0 ?_ ?_); (focus (first | rfl | (simp; done)))) | with_reducible refine ct_drew ?_ | with_reducible refine ct_drewN _ ?_ | ((with_reducible refine ct_new ?_ ?_); (focus (first | with_reducible rfl | (simp only [World.size_alloc, World.size_setCell, World.size_drew, size_drewN]; done))); (focus (first | rfl | (simp; done)))) | with_reducible refine ct_set _ _ ?_ | with_reducible refine ct_alloc _ ?_ | ((with_reducible refine kc_set ?_ ?_); (focus (first | (intro hx; injection hx; omega) | (simp; done)))) | with_reducible refine kc_alloc _ ?_ | ((with_reducible refine kf_new ?_ _); (focus (first | with_reducible rfl | (simp only [World.size_alloc, World.size_setCell, World.size_drew, size_drewN]; done)))) | with_reducible refine kf_set _ _ ?_ | ((with_reducible refine kf_alloc _ ?_ ?_); (focus (first | (simp only [World.size_alloc, World.size_setCell, World.size_drew, size_drewN]; omega) | (dsimp only; omega)))) | with_reducible refine bl_alloc ?_ _ | with_reducible refine bl_drew ?_ | with_reducible refine bl_drewN ?_ _ | ((with_reducible refine bl_set ?_ ?_ _); (focus (dsimp only; omega))) | with_reducible refine gro_alloc ?_ _ | with_reducible refine gro_drew ?_ | with_reducible refine gro_drewN ?_ _ | ((with_reducible refine gro_set ?_ ?_ _); (focus (first | omega | (dsimp only; omega))))))⟩
    · have E := Lib.hid (show decide (VD y m d) = false from decide_eq_false fun hh => h1 hh.2.2.1)
      have e1 : decide (1 ≤ d) = false := decide_eq_false h1
      clear h
      go_enter Try.func60, Try.ntmps60
      go_wp2_with fail
      go_quiet ((go_at_call 66; exact qt_same (HV _).out))
      go_wp2_with fail
      go_ret
      exact ⟨ret_bool E.out.symm, by (repeat (first | with_reducible rfl | with_reducible exact Below.refl _ _ | with_reducible exact gro_refl _ | with_reducible refine kc_drew ?_ | with_reducible refine kc_drewN _ ?_ | with_reducible refine kf_drew ?_ | with_reducible refine kf_drewN _ ?_ | ((with_reducible refine kc_new ?_ ?_); (focus (first | with_reducible rfl | (simp only [World.size_alloc, World.size_setCell, World.size_drew, size_drewN]; done))); (focus (first | rfl | (simp; done)))) | ((with_reducible refine kc_set0 ?_ ?_); (focus (first | rfl | (simp; done)))) | with_reducible refine ct_drew ?_ | with_reducible refine ct_drewN _ ?_ | ((with_reducible refine ct_new ?_ ?_); (focus (first | with_reducible rfl | (simp only [World.size_alloc, World.size_setCell, World.size_drew, size_drewN]; done))); (focus (first | rfl | (simp; done)))) | with_reducible refine ct_set _ _ ?_ | with_reducible refine ct_alloc _ ?_ | ((with_reducible refine kc_set ?_ ?_); (focus (first | (intro hx; injection hx; omega) | (simp; done)))) | with_reducible refine kc_alloc _ ?_ | ((with_reducible refine kf_new ?_ _); (focus (first | with_reducible rfl | (simp only [World.size_alloc, World.size_setCell, World.size_drew, size_drewN]; done)))) | with_reducible refine kf_set _ _ ?_ | ((with_reducible refine kf_alloc _ ?_ ?_); (focus (first | (simp only [World.size_alloc, World.size_setCell, World.size_drew, size_drewN]; omega) | (dsimp only; omega)))) | with_reducible refine bl_alloc ?_ _ | with_reducible refine bl_drew ?_ | with_reducible refine bl_drewN ?_ _ | ((with_reducible refine bl_set ?_ ?_ _); (focus (dsimp only; omega))) | with_reducible refine gro_alloc ?_ _ | with_reducible refine gro_drew ?_ | with_reducible refine gro_drewN ?_ _ | ((with_reducible refine gro_set ?_ ?_ _); (focus (first | omega | (dsimp only; omega))))))⟩
  · rw [decide_eq_false h] at HV
    have E := Lib.hid (show decide (VD y m d) = false from decide_eq_false fun hh => h ⟨hh.1, hh.2.1⟩)
    clear h
    go_enter Try.func60, Try.ntmps60
    go_wp2_with fail
    go_quiet ((go_at_call 66; exact qt_same (HV _).out))
    go_wp2_with fail
    go_ret
    exact ⟨ret_bool E.out.symm, by (repeat (first | with_reducible rfl | with_reducible exact Below.refl _ _ | with_reducible exact gro_refl _ | with_reducible refine kc_drew ?_ | with_reducible refine kc_drewN _ ?_ | with_reducible refine kf_drew ?_ | with_reducible refine kf_drewN _ ?_ | ((with_reducible refine kc_new ?_ ?_); (focus (first | with_reducible rfl | (simp only [World.size_alloc, World.size_setCell, World.size_drew, size_drewN]; done))); (focus (first | rfl | (simp; done)))) | ((with_reducible refine kc_set0 ?_ ?_); (focus (first | rfl | (simp; done)))) | with_reducible refine ct_drew ?_ | with_reducible refine ct_drewN _ ?_ | ((with_reducible refine ct_new ?_ ?_); (focus (first | with_reducible rfl | (simp only [World.size_alloc, World.size_setCell, World.size_drew, size_drewN]; done))); (focus (first | rfl | (simp; done)))) | with_reducible refine ct_set _ _ ?_ | with_reducible refine ct_alloc _ ?_ | ((with_reducible refine kc_set ?_ ?_); (focus (first | (intro hx; injection hx; omega) | (simp; done)))) | with_reducible refine kc_alloc _ ?_ | ((with_reducible refine kf_new ?_ _); (focus (first | with_reducible rfl | (simp only [World.size_alloc, World.size_setCell, World.size_drew, size_drewN]; done)))) | with_reducible refine kf_set _ _ ?_ | ((with_reducible refine kf_alloc _ ?_ ?_); (focus (first | (simp only [World.size_alloc, World.size_setCell, World.size_drew, size_drewN]; omega) | (dsimp only; omega)))) | with_reducible refine bl_alloc ?_ _ | with_reducible refine bl_drew ?_ | with_reducible refine bl_drewN ?_ _ | ((with_reducible refine bl_set ?_ ?_ _); (focus (dsimp only; omega))) | with_reducible refine gro_alloc ?_ _ | with_reducible refine gro_drew ?_ | with_reducible refine gro_drewN ?_ _ | ((with_reducible refine gro_set ?_ ?_ _); (focus (first | omega | (dsimp only; omega))))))⟩

set_option maxHeartbeats 1000000 in
set_option maxRecDepth 100000 in
theorem numberOf_any (y m d : Int) (w : World) (h : VD y m d) :
    Calls Try.prog 61 #[.agg #[.int .i64 y, .int .i64 m, .int .i64 d]] w fun e w' => e = .returned (.int .i64 (numD y m d)) ∧ Gro w w' := by
  obtain ⟨⟨y1, y2⟩, ⟨m1, m2⟩, d1, d2⟩ := h
  have HN := fun W => Lib.hid (newYear_any y W (by omega) (by omega))
  have nb := ny_bd (y := y) (by omega) (by omega)
  obtain ⟨nb1, nb2, _⟩ := nb
  have mb := mon_bd m (leapB y)
  have db : d ≤ 31 := by omega
  have HL := fun k (h1 : 1 ≤ k) (h2 : k ≤ 12) W => Lib.hid (lengthOf_any y k W (by omega) h1 h2)
  have HB := fun k (h1 : 1 ≤ k) (h2 : k ≤ 12) => Lib.hid (bef_bd (leapB y) h1 h2)
  have HS := fun k (h1 : 1 ≤ k) (h2 : k ≤ 12) => Lib.hid (bef_step (leapB y) h1 h2)
  have HO := Lib.hid (bef_one (leapB y))
  have HI := Lib.hid (bI_bd (leapB y))
  have E := Lib.hid (show nyD y + befD m (leapB y) + d - 1 = numD y m d from rfl)
  generalize hb : leapB y = b at *
  generalize nyD y = n at *
  clear mb d2 hb
  have c1 : IntKind.i64.wrap (n + d) = n + d := IntWalk.i64_in _ (by omega)
  have c2 : IntKind.i64.wrap (n + d - 1) = n + d - 1 := IntWalk.i64_in _ (by omega)
  go_enter Try.func61, Try.ntmps61
  go_wp2_with fail
  go_quiet ((go_at_call 81; exact qt_same (HN _).out))
  go_wp2_with fail
  go_loop [3, 4] (fun s t => ∃ k : Int, (1 ≤ k ∧ k ≤ m) ∧ s = .int .i64 (n + d - 1 + befD k b) ∧ t = .int .i64 k) (fun s t => (m - intOf t).toNat)
  case atStart => exact ⟨1, by omega, by rw [HO.out]; go_num, rfl⟩
  case round =>
    obtain ⟨k, ⟨k1, k2⟩, rfl, rfl⟩ := hrel
    by_cases hk : k < m
    · have hB := (HB k k1 (by omega)).out
      have hS := (HS k k1 (by omega)).out
      have hM := mon_bd k b
      have hI := HI.out
      have HL' := fun W => HL k k1 (by omega) W
      generalize monD k b = l at *
      generalize befD k b = f at *
      go_wp2_with (go_at_call 67; ((with_reducible refine (HL' _).out.mono ?_); rintro e w' ⟨rfl, rfl⟩))
      go_round
      case rel => exact ⟨k + 1, by omega, by rw [hS]; go_num, by go_num⟩
      case measure => simp [intOf]; omega
    · have hk' : k = m := by omega
      subst hk'
      go_wp2_with fail
      go_ret
      exact ⟨ret_i64 (by rw [← E.out]; omega), by (repeat (first | with_reducible rfl | with_reducible exact Below.refl _ _ | with_reducible exact gro_refl _ | with_reducible refine kc_drew ?_ | with_reducible refine kc_drewN _ ?_ | with_reducible refine kf_drew ?_ | with_reducible refine kf_drewN _ ?_ | ((with_reducible refine kc_new ?_ ?_); (focus (first | with_reducible rfl | (simp only [World.size_alloc, World.size_setCell, World.size_drew, size_drewN]; done))); (focus (first | rfl | (simp; done)))) | ((with_reducible refine kc_set0 ?_ ?_); (focus (first | rfl | (simp; done)))) | with_reducible refine ct_drew ?_ | with_reducible refine ct_drewN _ ?_ | ((with_reducible refine ct_new ?_ ?_); (focus (first | with_reducible rfl | (simp only [World.size_alloc, World.size_setCell, World.size_drew, size_drewN]; done))); (focus (first | rfl | (simp; done)))) | with_reducible refine ct_set _ _ ?_ | with_reducible refine ct_alloc _ ?_ | ((with_reducible refine kc_set ?_ ?_); (focus (first | (intro hx; injection hx; omega) | (simp; done)))) | with_reducible refine kc_alloc _ ?_ | ((with_reducible refine kf_new ?_ _); (focus (first | with_reducible rfl | (simp only [World.size_alloc, World.size_setCell, World.size_drew, size_drewN]; done)))) | with_reducible refine kf_set _ _ ?_ | ((with_reducible refine kf_alloc _ ?_ ?_); (focus (first | (simp only [World.size_alloc, World.size_setCell, World.size_drew, size_drewN]; omega) | (dsimp only; omega)))) | with_reducible refine bl_alloc ?_ _ | with_reducible refine bl_drew ?_ | with_reducible refine bl_drewN ?_ _ | ((with_reducible refine bl_set ?_ ?_ _); (focus (dsimp only; omega))) | with_reducible refine gro_alloc ?_ _ | with_reducible refine gro_drew ?_ | with_reducible refine gro_drewN ?_ _ | ((with_reducible refine gro_set ?_ ?_ _); (focus (first | omega | (dsimp only; omega))))))⟩
end Go.Proofs.Ytmcndbfnjpkelaa
