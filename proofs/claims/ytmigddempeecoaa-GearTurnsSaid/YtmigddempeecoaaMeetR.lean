/- The statements' own Meet: all numbers of turns are tried. -/
import Derived.Test.YtmigddempeecoaaMeet
namespace Go.Proofs.Ytmigddempeecoaa
set_option linter.unusedVariables false
set_option linter.unusedSimpArgs false
open Go.RowKit Go.Lib

set_option maxHeartbeats 1000000 in
set_option maxRecDepth 100000 in
theorem refMeet_any (w p : Nat) (W : World) (hw : 1 ≤ w) (hw' : w ≤ 200) (hp : 1 ≤ p) (hp' : p ≤ 200) :
    Calls Try.prog 31 #[.int .i64 w, .int .i64 p] W fun e w' => e = .returned (.tuple #[.int .i64 (p / Nat.gcd w p : Nat), .int .i64 (w / Nat.gcd w p : Nat)]) ∧ Gro W w' := by
  obtain ⟨g1, g2, g3, b1, b2, b3, b4, b5⟩ := meet_bd hw hp
  have HD : Hid (∀ k, p ∣ k * w ↔ p / Nat.gcd w p ∣ k) := fun k => meet_dvd (w := w) (p := p) (k := k) hp
  generalize hq : p / Nat.gcd w p = q at *
  generalize hr : w / Nat.gcd w p = r at *
  have zp2 : ¬ (p : Int) = 0 := by omega
  have HB := Lib.hid b5
  clear g1 g2 g3 b5 hq hr
  go_enter Try.func31, Try.ntmps31
  go_wp2_with fail
  go_loop [6] (fun t => ∃ k : Nat, 1 ≤ k ∧ k ≤ q ∧ t = .int .i64 k) (fun t => q - (intOf t).toNat)
  case atStart => exact ⟨1, Nat.le_refl _, b1, rfl⟩
  case round =>
    obtain ⟨k, k1, kq, rfl⟩ := hrel
    have hm : k * w ≤ 200 * 200 := Nat.mul_le_mul (by omega) hw'
    have m1 : 0 ≤ (k : Int) * (w : Int) := Int.mul_nonneg (by omega) (by omega)
    have m2 : (k : Int) * (w : Int) ≤ 40000 := by
      have : ((k * w : Nat) : Int) ≤ 40000 := by omega
      rwa [Int.natCast_mul] at this
    by_cases hd : p ∣ k * w
    · have hk : k = q := Nat.le_antisymm kq (Nat.le_of_dvd (by omega) ((HD.out k).1 hd))
      have t0 : (k : Int) * (w : Int) % (p : Int) = 0 := by
        have := Int.emod_eq_zero_of_dvd (Int.natCast_dvd_natCast.2 hd)
        rwa [Int.natCast_mul] at this
      have hv : (k : Int) * (w : Int) / (p : Int) = (r : Int) := by
        have e : (k : Int) * (w : Int) = (r : Int) * (p : Int) := by
          have := HB.out
          rw [hk]
          rw [← Int.natCast_mul, ← Int.natCast_mul, this]
        rw [e]
        exact Int.mul_ediv_cancel _ zp2
      have hv' : ((k : Int) * (w : Int)).tdiv (p : Int) = (r : Int) := (Int.tdiv_eq_ediv_of_nonneg m1).trans hv
      have wr : IntKind.i64.wrap ((k : Int) * (w : Int)) = (k : Int) * (w : Int) := IntWalk.i64_in _ (by omega)
      have wr2 : IntKind.i64.wrap (r : Int) = (r : Int) := IntWalk.i64_in _ (by omega)
      have HK := Lib.hid hk
      clear hk hd
      go_wp2_with fail
      go_quiet (fail)
      go_wp2_with fail
      go_ret2
      exact ⟨by rw [HK.out]; rfl, by (repeat (first | with_reducible rfl | with_reducible exact Below.refl _ _ | with_reducible exact gro_refl _ | with_reducible refine kc_drew ?_ | with_reducible refine kc_drewN _ ?_ | with_reducible refine kf_drew ?_ | with_reducible refine kf_drewN _ ?_ | ((with_reducible refine kc_new ?_ ?_); (focus (first | with_reducible rfl | (simp only [World.size_alloc, World.size_setCell, World.size_drew, size_drewN]; done))); (focus (first | rfl | (simp; done)))) | ((with_reducible refine kc_set0 ?_ ?_); (focus (first | rfl | (simp; done)))) | with_reducible refine ct_drew ?_ | with_reducible refine ct_drewN _ ?_ | ((with_reducible refine ct_new ?_ ?_); (focus (first | with_reducible rfl | (simp only [World.size_alloc, World.size_setCell, World.size_drew, size_drewN]; done))); (focus (first | rfl | (simp; done)))) | with_reducible refine ct_set _ _ ?_ | with_reducible refine ct_alloc _ ?_ | ((with_reducible refine kc_set ?_ ?_); (focus (first | (intro hx; injection hx; omega) | (simp; done)))) | with_reducible refine kc_alloc _ ?_ | ((with_reducible refine kf_new ?_ _); (focus (first | with_reducible rfl | (simp only [World.size_alloc, World.size_setCell, World.size_drew, size_drewN]; done)))) | with_reducible refine kf_set _ _ ?_ | ((with_reducible refine kf_alloc _ ?_ ?_); (focus (first | (simp only [World.size_alloc, World.size_setCell, World.size_drew, size_drewN]; omega) | (dsimp only; omega)))) | with_reducible refine bl_alloc ?_ _ | with_reducible refine bl_drew ?_ | with_reducible refine bl_drewN ?_ _ | ((with_reducible refine bl_set ?_ ?_ _); (focus (dsimp only; omega))) | with_reducible refine gro_alloc ?_ _ | with_reducible refine gro_drew ?_ | with_reducible refine gro_drewN ?_ _ | ((with_reducible refine gro_set ?_ ?_ _); (focus (first | omega | (dsimp only; omega))))))⟩
    · have hk : k < q := by
        rcases Nat.lt_or_eq_of_le kq with h | h
        · exact h
        · exact absurd ((HD.out k).2 (h ▸ Nat.dvd_refl _)) hd
      have t0 : ¬ (k : Int) * (w : Int) % (p : Int) = 0 := by
        intro h
        have := Int.dvd_of_emod_eq_zero h
        rw [← Int.natCast_mul] at this
        exact hd (Int.natCast_dvd_natCast.1 this)
      have t1 : ((k : Int) * (w : Int) % (p : Int) != 0) = true := by simpa using t0
      clear hd
      go_wp2_with fail
      go_round
      case rel => exact ⟨k + 1, by omega, by omega, by go_num⟩
      case measure => simp [intOf]; omega
end Go.Proofs.Ytmigddempeecoaa
