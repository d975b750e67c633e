/- Meet: how many turns; the plain side and the walks. -/
import Derived.Test.YtmigddempeecoaaLives
namespace Go.Proofs.Ytmigddempeecoaa
set_option linter.unusedVariables false
set_option linter.unusedSimpArgs false
open Go.RowKit Go.Lib

theorem meet_dvd {w p k : Nat} (hp : 0 < p) : p ∣ k * w ↔ p / Nat.gcd w p ∣ k := by
  have hg : 0 < Nat.gcd w p := Nat.gcd_pos_of_pos_right w hp
  have hc : Nat.Coprime (w / Nat.gcd w p) (p / Nat.gcd w p) := Nat.coprime_div_gcd_div_gcd hg
  have ew := Nat.div_mul_cancel (Nat.gcd_dvd_left w p)
  have ep := Nat.div_mul_cancel (Nat.gcd_dvd_right w p)
  generalize Nat.gcd w p = g at *
  generalize w / g = a at *
  generalize p / g = b at *
  subst ew
  subst ep
  rw [show k * (a * g) = k * a * g from (Nat.mul_assoc k a g).symm, Nat.mul_dvd_mul_iff_right hg]
  constructor
  · intro h
    exact Nat.Coprime.dvd_of_dvd_mul_right hc.symm h
  · intro h
    exact Nat.dvd_trans h (Nat.dvd_mul_right k a)

theorem meet_bd {w p : Nat} (hw : 1 ≤ w) (hp : 1 ≤ p) : 1 ≤ Nat.gcd w p ∧ Nat.gcd w p ≤ w ∧ Nat.gcd w p ≤ p ∧ 1 ≤ p / Nat.gcd w p ∧ p / Nat.gcd w p ≤ p ∧ 1 ≤ w / Nat.gcd w p ∧ w / Nat.gcd w p ≤ w ∧ p / Nat.gcd w p * w = w / Nat.gcd w p * p := by
  have hg : 0 < Nat.gcd w p := Nat.gcd_pos_of_pos_right w (by omega)
  have l1 : Nat.gcd w p ≤ w := Nat.gcd_le_left p (by omega)
  have l2 : Nat.gcd w p ≤ p := Nat.gcd_le_right w (by omega)
  refine ⟨hg, l1, l2, Nat.div_pos l2 hg, Nat.div_le_self _ _, Nat.div_pos l1 hg, Nat.div_le_self _ _, ?_⟩
  have ew := Nat.div_mul_cancel (Nat.gcd_dvd_left w p)
  have ep := Nat.div_mul_cancel (Nat.gcd_dvd_right w p)
  generalize Nat.gcd w p = g at *
  generalize w / g = a at *
  generalize p / g = b at *
  subst ew
  subst ep
  grind

set_option maxHeartbeats 1000000 in
set_option maxRecDepth 100000 in
theorem meet_ok (w p : Nat) (W : World) (hw : 1 ≤ w) (hw' : w ≤ 200) (hp : 1 ≤ p) (hp' : p ≤ 200) :
    Calls Try.prog 30 #[.int .i64 w, .int .i64 p] W fun e w' => e = .returned (.tuple #[.int .i64 (p / Nat.gcd w p : Nat), .int .i64 (w / Nat.gcd w p : Nat), .int .i64 0]) ∧ Gro W w' := by
  obtain ⟨g1, g2, g3, b1, b2, b3, b4, b5⟩ := meet_bd hw hp
  have HI1 := fun W => Lib.hid (inRange_any (w : Int) 1 200 W)
  rw [show decide ((1 : Int) ≤ w ∧ (w : Int) ≤ 200) = true by simp; omega] at HI1
  have HI2 := fun W => Lib.hid (inRange_any (p : Int) 1 200 W)
  rw [show decide ((1 : Int) ≤ p ∧ (p : Int) ≤ 200) = true by simp; omega] at HI2
  have HM1 := fun W => Lib.hid (mag_any (w : Int) W (by omega) (by omega))
  have HM2 := fun W => Lib.hid (mag_any (p : Int) W (by omega) (by omega))
  rw [show (w : Int).natAbs = w from rfl] at HM1
  rw [show (p : Int).natAbs = p from rfl] at HM2
  have HG := fun W => Lib.hid (gcd_any w p W (by omega) (by omega))
  have ed1 : ((p / Nat.gcd w p : Nat) : Int) = (p : Int) / (Nat.gcd w p : Nat) := rfl
  have ed2 : ((w / Nat.gcd w p : Nat) : Int) = (w : Int) / (Nat.gcd w p : Nat) := rfl
  rw [ed1, ed2]
  rw [ed1] at *
  generalize Nat.gcd w p = g at *
  clear ed1 ed2 b5
  have x1 : (p : Int).tdiv g = (p : Int) / g := Int.tdiv_eq_ediv_of_nonneg (by omega)
  have x2 : (w : Int).tdiv g = (w : Int) / g := Int.tdiv_eq_ediv_of_nonneg (by omega)
  have y0 : 0 ≤ (p : Int) / g ∧ (p : Int) / g ≤ p := ⟨Int.ediv_nonneg (by omega) (by omega), Int.ediv_le_self _ (by omega)⟩
  have y9 : 0 ≤ (w : Int) / g ∧ (w : Int) / g ≤ w := ⟨Int.ediv_nonneg (by omega) (by omega), Int.ediv_le_self _ (by omega)⟩
  have y1 : IntKind.i64.wrap ((p : Int) / g) = (p : Int) / g := IntWalk.i64_in _ (by omega)
  have y2 : IntKind.i64.wrap ((w : Int) / g) = (w : Int) / g := IntWalk.i64_in _ (by omega)
  have zg : ((g : Int) == 0) = false := by simp; omega
  have zg2 : ¬ (g : Int) = 0 := by omega
  have g200 : (g : Int) ≤ 200 := by omega
  have g00 : 0 ≤ (g : Int) := by omega
  go_enter Try.func30, Try.ntmps30
  go_wp2_with (first | (go_at_call 72; ((with_reducible refine (HI1 _).out.mono ?_); rintro e w' ⟨rfl, rfl⟩)) | (go_at_call 72; ((with_reducible refine (HI2 _).out.mono ?_); rintro e w' ⟨rfl, rfl⟩)) | (go_at_call 53; ((with_reducible refine (HM1 _).out.mono ?_); rintro e w' ⟨rfl, rfl⟩)) | (go_at_call 53; ((with_reducible refine (HM2 _).out.mono ?_); rintro e w' ⟨rfl, rfl⟩)) | (go_at_call 54; ((with_reducible refine (HG _).out.mono ?_); rintro e w' ⟨rfl, n, rfl⟩)))
  go_quiet (fail)
  go_wp2_with fail
  go_ret3
  exact ⟨rfl, by (repeat (first | with_reducible rfl | with_reducible exact Below.refl _ _ | with_reducible exact gro_refl _ | with_reducible refine kc_drew ?_ | with_reducible refine kc_drewN _ ?_ | with_reducible refine kf_drew ?_ | with_reducible refine kf_drewN _ ?_ | ((with_reducible refine kc_new ?_ ?_); (focus (first | with_reducible rfl | (simp only [World.size_alloc, World.size_setCell, World.size_drew, size_drewN]; done))); (focus (first | rfl | (simp; done)))) | ((with_reducible refine kc_set0 ?_ ?_); (focus (first | rfl | (simp; done)))) | with_reducible refine ct_drew ?_ | with_reducible refine ct_drewN _ ?_ | ((with_reducible refine ct_new ?_ ?_); (focus (first | with_reducible rfl | (simp only [World.size_alloc, World.size_setCell, World.size_drew, size_drewN]; done))); (focus (first | rfl | (simp; done)))) | with_reducible refine ct_set _ _ ?_ | with_reducible refine ct_alloc _ ?_ | ((with_reducible refine kc_set ?_ ?_); (focus (first | (intro hx; injection hx; omega) | (simp; done)))) | with_reducible refine kc_alloc _ ?_ | ((with_reducible refine kf_new ?_ _); (focus (first | with_reducible rfl | (simp only [World.size_alloc, World.size_setCell, World.size_drew, size_drewN]; done)))) | with_reducible refine kf_set _ _ ?_ | ((with_reducible refine kf_alloc _ ?_ ?_); (focus (first | (simp only [World.size_alloc, World.size_setCell, World.size_drew, size_drewN]; omega) | (dsimp only; omega)))) | with_reducible refine bl_alloc ?_ _ | with_reducible refine bl_drew ?_ | with_reducible refine bl_drewN ?_ _ | ((with_reducible refine bl_set ?_ ?_ _); (focus (dsimp only; omega))) | with_reducible refine gro_alloc ?_ _ | with_reducible refine gro_drew ?_ | with_reducible refine gro_drewN ?_ _ | ((with_reducible refine gro_set ?_ ?_ _); (focus (first | omega | (dsimp only; omega))))))⟩

/-- Of teeth that are not 1 to 200. -/
theorem meet_bad (w p : Int) (W : World) (h : ¬ ((1 ≤ w ∧ w ≤ 200) ∧ 1 ≤ p ∧ p ≤ 200)) :
    Calls Try.prog 30 #[.int .i64 w, .int .i64 p] W fun e w' => e = .returned (.tuple #[.int .i64 0, .int .i64 0, .int .i64 1]) ∧ Gro W w' := by
  have HI1 := fun W => Lib.hid (inRange_any w 1 200 W)
  have HI2 := fun W => Lib.hid (inRange_any p 1 200 W)
  by_cases h1 : 1 ≤ w ∧ w ≤ 200
  · rw [show decide (1 ≤ w ∧ w ≤ 200) = true by simpa using h1] at HI1
    rw [show decide (1 ≤ p ∧ p ≤ 200) = false by simp; omega] at HI2
    clear h h1
    go_enter Try.func30, Try.ntmps30
    go_wp2_with (first | (go_at_call 72; ((with_reducible refine (HI2 _).out.mono ?_); rintro e w' ⟨rfl, rfl⟩)) | (go_at_call 72; ((with_reducible refine (HI1 _).out.mono ?_); rintro e w' ⟨rfl, rfl⟩)))
    go_ret3
    exact ⟨rfl, by (repeat (first | with_reducible rfl | with_reducible exact Below.refl _ _ | with_reducible exact gro_refl _ | with_reducible refine kc_drew ?_ | with_reducible refine kc_drewN _ ?_ | with_reducible refine kf_drew ?_ | with_reducible refine kf_drewN _ ?_ | ((with_reducible refine kc_new ?_ ?_); (focus (first | with_reducible rfl | (simp only [World.size_alloc, World.size_setCell, World.size_drew, size_drewN]; done))); (focus (first | rfl | (simp; done)))) | ((with_reducible refine kc_set0 ?_ ?_); (focus (first | rfl | (simp; done)))) | with_reducible refine ct_drew ?_ | with_reducible refine ct_drewN _ ?_ | ((with_reducible refine ct_new ?_ ?_); (focus (first | with_reducible rfl | (simp only [World.size_alloc, World.size_setCell, World.size_drew, size_drewN]; done))); (focus (first | rfl | (simp; done)))) | with_reducible refine ct_set _ _ ?_ | with_reducible refine ct_alloc _ ?_ | ((with_reducible refine kc_set ?_ ?_); (focus (first | (intro hx; injection hx; omega) | (simp; done)))) | with_reducible refine kc_alloc _ ?_ | ((with_reducible refine kf_new ?_ _); (focus (first | with_reducible rfl | (simp only [World.size_alloc, World.size_setCell, World.size_drew, size_drewN]; done)))) | with_reducible refine kf_set _ _ ?_ | ((with_reducible refine kf_alloc _ ?_ ?_); (focus (first | (simp only [World.size_alloc, World.size_setCell, World.size_drew, size_drewN]; omega) | (dsimp only; omega)))) | with_reducible refine bl_alloc ?_ _ | with_reducible refine bl_drew ?_ | with_reducible refine bl_drewN ?_ _ | ((with_reducible refine bl_set ?_ ?_ _); (focus (dsimp only; omega))) | with_reducible refine gro_alloc ?_ _ | with_reducible refine gro_drew ?_ | with_reducible refine gro_drewN ?_ _ | ((with_reducible refine gro_set ?_ ?_ _); (focus (first | omega | (dsimp only; omega))))))⟩
  · rw [show decide (1 ≤ w ∧ w ≤ 200) = false by simpa using h1] at HI1
    clear h h1
    go_enter Try.func30, Try.ntmps30
    go_wp2_with (go_at_call 72; ((with_reducible refine (HI1 _).out.mono ?_); rintro e w' ⟨rfl, rfl⟩))
    go_ret3
    exact ⟨rfl, by (repeat (first | with_reducible rfl | with_reducible exact Below.refl _ _ | with_reducible exact gro_refl _ | with_reducible refine kc_drew ?_ | with_reducible refine kc_drewN _ ?_ | with_reducible refine kf_drew ?_ | with_reducible refine kf_drewN _ ?_ | ((with_reducible refine kc_new ?_ ?_); (focus (first | with_reducible rfl | (simp only [World.size_alloc, World.size_setCell, World.size_drew, size_drewN]; done))); (focus (first | rfl | (simp; done)))) | ((with_reducible refine kc_set0 ?_ ?_); (focus (first | rfl | (simp; done)))) | with_reducible refine ct_drew ?_ | with_reducible refine ct_drewN _ ?_ | ((with_reducible refine ct_new ?_ ?_); (focus (first | with_reducible rfl | (simp only [World.size_alloc, World.size_setCell, World.size_drew, size_drewN]; done))); (focus (first | rfl | (simp; done)))) | with_reducible refine ct_set _ _ ?_ | with_reducible refine ct_alloc _ ?_ | ((with_reducible refine kc_set ?_ ?_); (focus (first | (intro hx; injection hx; omega) | (simp; done)))) | with_reducible refine kc_alloc _ ?_ | ((with_reducible refine kf_new ?_ _); (focus (first | with_reducible rfl | (simp only [World.size_alloc, World.size_setCell, World.size_drew, size_drewN]; done)))) | with_reducible refine kf_set _ _ ?_ | ((with_reducible refine kf_alloc _ ?_ ?_); (focus (first | (simp only [World.size_alloc, World.size_setCell, World.size_drew, size_drewN]; omega) | (dsimp only; omega)))) | with_reducible refine bl_alloc ?_ _ | with_reducible refine bl_drew ?_ | with_reducible refine bl_drewN ?_ _ | ((with_reducible refine bl_set ?_ ?_ _); (focus (dsimp only; omega))) | with_reducible refine gro_alloc ?_ _ | with_reducible refine gro_drew ?_ | with_reducible refine gro_drewN ?_ _ | ((with_reducible refine gro_set ?_ ?_ _); (focus (first | omega | (dsimp only; omega))))))⟩
end Go.Proofs.Ytmigddempeecoaa
