/- Walks: the reference's Number and Weekday. -/
import Derived.Test.YtmcndbfnjpkelaaDl
import Derived.LoopTactic
import Derived.LoopN
namespace Go.Proofs.Ytmcndbfnjpkelaa
set_option linter.unusedVariables false
set_option linter.unusedSimpArgs false
open Go.RowKit Go.Lib

set_option maxHeartbeats 4000000 in
set_option maxRecDepth 100000 in
theorem refNumber_any (y m d : Int) (w : World) (h : VD y m d) :
    Calls Try.prog 26 #[.agg #[.int .i64 y, .int .i64 m, .int .i64 d]] w fun v w' => v = .returned (.int .i64 (numD y m d)) ∧ Gro w w' := by
  obtain ⟨⟨y1, y2⟩, ⟨m1, m2⟩, d1, d2⟩ := h
  have mb := mon_bd m (leapB y)
  have db : d ≤ 31 := by omega
  have HP := fun k (h : 0 ≤ k) W => Lib.hid (refLeap_any k W h)
  have HS0 := fun k => Lib.hid (ny_step k)
  have HBd := fun k (h1 : 1 ≤ k) (h2 : k ≤ 10001) => Lib.hid (ny_bd h1 h2)
  have E := Lib.hid (show nyD y + befD m (leapB y) + d - 1 = numD y m d from rfl)
  have HL := fun k (h1 : 1 ≤ k) (h2 : k ≤ 12) W => Lib.hid (refLength_any k (leapB y) W h1 h2)
  have HB := fun k (h1 : 1 ≤ k) (h2 : k ≤ 12) => Lib.hid (bef_bd (leapB y) h1 h2)
  have HS := fun k (h1 : 1 ≤ k) (h2 : k ≤ 12) => Lib.hid (bef_step (leapB y) h1 h2)
  have HO := Lib.hid (bef_one (leapB y))
  have HN1 := Lib.hid ny_one
  have hyb := ny_bd (y := y) y1 (by omega)
  clear mb d2
  go_enter Try.func26, Try.ntmps26
  go_wp2_with fail
  go_loop [3, 4] (fun s t => ∃ k : Int, (1 ≤ k ∧ k ≤ y) ∧ s = .int .i64 (d - 1 + nyD k) ∧ t = .int .i64 k) (fun s t => (y - intOf t).toNat)
  case atStart => exact ⟨1, by omega, by rw [HN1.out]; go_num, rfl⟩
  case round =>
    obtain ⟨k, ⟨k1, k2⟩, rfl, rfl⟩ := hrel
    have hbk := (HBd k k1 (by omega)).out
    have hsk := (HS0 k).out
    have HP1 := HP k (by omega)
    by_cases hk : k < y
    · cases hl : leapB k
      · rw [hl] at HP1 hsk
        have hsk' : Hid (nyD (k + 1) = nyD k + 365) := (by have e0 : bI false = 0 := rfl; show _ = _; omega)
        clear hl hsk
        generalize nyD k = f at *
        go_wp2_with (go_at_call 32; ((with_reducible refine (HP1 _).out.mono ?_); rintro v w' ⟨rfl, rfl⟩))
        go_round
        case rel => exact ⟨k + 1, by omega, by rw [hsk'.out]; go_num, by go_num⟩
        case measure => simp [intOf]; omega
      · rw [hl] at HP1 hsk
        have hsk' : Hid (nyD (k + 1) = nyD k + 365 + 1) := hsk
        clear hl hsk
        generalize nyD k = f at *
        go_wp2_with (go_at_call 32; ((with_reducible refine (HP1 _).out.mono ?_); rintro v w' ⟨rfl, rfl⟩))
        go_round
        case rel => exact ⟨k + 1, by omega, by rw [hsk'.out]; go_num, by go_num⟩
        case measure => simp [intOf]; omega
    · have hk' : k = y := by omega
      subst hk'
      have HP2 := HP k (by omega)
      generalize hb : leapB k = b at *
      generalize nyD k = f at *
      clear hb HP1 hsk HP HS0 HBd hbk
      obtain ⟨f0, f1, _⟩ := hyb
      go_wp2_with fail
      go_loopw [3, 5] (fun s t wr => ∃ j : Int, (1 ≤ j ∧ j ≤ m) ∧ s = .int .i64 (d - 1 + f + befD j b) ∧ t = .int .i64 j ∧ Gro w wr ∧ wr.cell? ⟨w.heap.size, 0, none⟩ = some (.int .i64 k) ∧ wr.cell? ⟨w.heap.size, 1, none⟩ = some (.int .i64 m)) (fun s t _ => (m - intOf t).toNat)
      case atStart => exact ⟨1, by omega, by rw [HO.out]; go_num, rfl, by (with_reducible repeat (first | exact gro_refl _ | refine gro_alloc ?_ _ | refine gro_drew ?_ | refine gro_drewN ?_ _ | (refine gro_set ?_ ?_ _; (focus first | omega | (dsimp only; omega))))), by (with_reducible repeat (first | refine kc_drew ?_ | refine kc_drewN _ ?_ | (refine kc_new ?_ ?_; (focus first | rfl | (simp only [World.size_alloc, World.size_setCell, World.size_drew, size_drewN]; done)); (focus first | rfl | (simp; done))) | (refine kc_set0 ?_ ?_; (focus first | rfl | (simp; done))) | exact ct_of (by assumption) | refine ct_drew ?_ | refine ct_drewN _ ?_ | (refine ct_new ?_ ?_; (focus first | rfl | (simp only [World.size_alloc, World.size_setCell, World.size_drew, size_drewN]; done)); (focus first | rfl | (simp; done))) | refine ct_set _ _ ?_ | refine ct_alloc _ ?_ | (refine kc_set ?_ ?_; (focus first | (intro hx; injection hx; omega) | (simp; done))) | refine kc_alloc _ ?_)), by (with_reducible repeat (first | refine kc_drew ?_ | refine kc_drewN _ ?_ | (refine kc_new ?_ ?_; (focus first | rfl | (simp only [World.size_alloc, World.size_setCell, World.size_drew, size_drewN]; done)); (focus first | rfl | (simp; done))) | (refine kc_set0 ?_ ?_; (focus first | rfl | (simp; done))) | exact ct_of (by assumption) | refine ct_drew ?_ | refine ct_drewN _ ?_ | (refine ct_new ?_ ?_; (focus first | rfl | (simp only [World.size_alloc, World.size_setCell, World.size_drew, size_drewN]; done)); (focus first | rfl | (simp; done))) | refine ct_set _ _ ?_ | refine ct_alloc _ ?_ | (refine kc_set ?_ ?_; (focus first | (intro hx; injection hx; omega) | (simp; done))) | refine kc_alloc _ ?_))⟩
      case round =>
        obtain ⟨j, ⟨j1, j2⟩, rfl, rfl, hG, r0, r1⟩ := hrel
        by_cases hj : j < m
        · have hB := (HB j j1 (by omega)).out
          have hS := (HS j j1 (by omega))
          have hM := mon_bd j b
          have hI := bI_bd b
          have HL' := fun W => HL j j1 (by omega) W
          generalize monD j b = l at *
          generalize befD j b = p at *
          go_wp2_with (first | (go_at_call 32; ((with_reducible refine (HP2 _).out.mono ?_); rintro v w' ⟨rfl, rfl⟩)) | (go_at_call 31; ((with_reducible refine (HL' _).out.mono ?_); rintro v w2 ⟨rfl, hk2⟩; have hb2 := hk2.below; have ⟨r0, r1⟩ : w2.cell? ⟨w.heap.size, 0, none⟩ = some (.int .i64 k) ∧ w2.cell? ⟨w.heap.size, 1, none⟩ = some (.int .i64 m) := (by and_intros <;> (with_reducible repeat (first | exact r0 | exact r1 | refine kc_drew ?_ | refine kc_drewN _ ?_ | refine kc_below hb2 ?_ | (refine kc_new ?_ ?_; (focus first | rfl | (simp only [World.size_alloc, World.size_setCell, World.size_drew, size_drewN]; done)); (focus first | rfl | (simp; done))) | (refine kc_set0 ?_ ?_; (focus first | rfl | (simp; done))) | exact ct_of (by assumption) | refine ct_drew ?_ | refine ct_drewN _ ?_ | refine ct_below hb2 ?_ | (refine ct_new ?_ ?_; (focus first | rfl | (simp only [World.size_alloc, World.size_setCell, World.size_drew, size_drewN]; done)); (focus first | rfl | (simp; done))) | refine ct_set _ _ ?_ | refine ct_alloc _ ?_ | (refine kc_set ?_ ?_; (focus first | (intro hx; injection hx; omega) | (simp; done))) | refine kc_alloc _ ?_))); have hG : Gro w w2 := (by (with_reducible repeat (first | exact hG | exact gro_refl _ | refine gro_alloc ?_ _ | refine gro_drew ?_ | refine gro_drewN ?_ _ | (refine gro_set ?_ ?_ _; (focus first | omega | (dsimp only; omega))) | refine gro_call ?_ hk2))))))
          go_roundw
          case rel => exact ⟨j + 1, by omega, by rw [hS.out]; go_num, by go_num, by (with_reducible repeat (first | exact hG | exact gro_refl _ | refine gro_alloc ?_ _ | refine gro_drew ?_ | refine gro_drewN ?_ _ | (refine gro_set ?_ ?_ _; (focus first | omega | (dsimp only; omega))))), by (with_reducible repeat (first | exact r0 | exact r1 | refine kc_drew ?_ | refine kc_drewN _ ?_ | (refine kc_new ?_ ?_; (focus first | rfl | (simp only [World.size_alloc, World.size_setCell, World.size_drew, size_drewN]; done)); (focus first | rfl | (simp; done))) | (refine kc_set0 ?_ ?_; (focus first | rfl | (simp; done))) | exact ct_of (by assumption) | refine ct_drew ?_ | refine ct_drewN _ ?_ | (refine ct_new ?_ ?_; (focus first | rfl | (simp only [World.size_alloc, World.size_setCell, World.size_drew, size_drewN]; done)); (focus first | rfl | (simp; done))) | refine ct_set _ _ ?_ | refine ct_alloc _ ?_ | (refine kc_set ?_ ?_; (focus first | (intro hx; injection hx; omega) | (simp; done))) | refine kc_alloc _ ?_)), by (with_reducible repeat (first | exact r0 | exact r1 | refine kc_drew ?_ | refine kc_drewN _ ?_ | (refine kc_new ?_ ?_; (focus first | rfl | (simp only [World.size_alloc, World.size_setCell, World.size_drew, size_drewN]; done)); (focus first | rfl | (simp; done))) | (refine kc_set0 ?_ ?_; (focus first | rfl | (simp; done))) | exact ct_of (by assumption) | refine ct_drew ?_ | refine ct_drewN _ ?_ | (refine ct_new ?_ ?_; (focus first | rfl | (simp only [World.size_alloc, World.size_setCell, World.size_drew, size_drewN]; done)); (focus first | rfl | (simp; done))) | refine ct_set _ _ ?_ | refine ct_alloc _ ?_ | (refine kc_set ?_ ?_; (focus first | (intro hx; injection hx; omega) | (simp; done))) | refine kc_alloc _ ?_))⟩
          case measure => simp [intOf]; omega
        · have hj' : j = m := by omega
          subst hj'
          go_wp2_with fail
          go_ret
          exact ⟨ret_i64 (by rw [← E.out]; omega), by (with_reducible repeat (first | exact hG | exact gro_refl _ | refine gro_alloc ?_ _ | refine gro_drew ?_ | refine gro_drewN ?_ _ | (refine gro_set ?_ ?_ _; (focus first | omega | (dsimp only; omega)))))⟩

set_option maxHeartbeats 1000000 in
set_option maxRecDepth 100000 in
theorem refWeekday_any (y m d : Int) (w : World) (h : VD y m d) :
    Calls Try.prog 27 #[.agg #[.int .i64 y, .int .i64 m, .int .i64 d]] w fun v w' => v = .returned (.int .i64 ((numD y m d + 1) % 7)) ∧ Gro w w' := by
  have HN := fun W => Lib.hid (refNumber_any y m d W h)
  obtain ⟨n0, n1⟩ := num_bd h
  clear h
  generalize numD y m d = n at *
  go_enter Try.func27, Try.ntmps27
  go_wp2_with (go_at_call 26; ((with_reducible refine (HN _).out.mono ?_); rintro e w1 ⟨rfl, hk1⟩; have hb1 := hk1.below))
  go_ret
  exact ⟨rfl, by (with_reducible repeat (first | exact gro_refl _ | refine gro_alloc ?_ _ | refine gro_drew ?_ | refine gro_drewN ?_ _ | (refine gro_set ?_ ?_ _; (focus first | omega | (dsimp only; omega))) | refine gro_call ?_ hk1))⟩
end Go.Proofs.Ytmcndbfnjpkelaa
