/- The walk of DialLengths. -/
import Derived.Test.YtmcndbfnjpkelaaDlv
import Derived.Test.YtmcndbfnjpkelaaDl
namespace Go.Proofs.Ytmcndbfnjpkelaa
set_option linter.unusedVariables false
set_option linter.unusedSimpArgs false
open Go.RowKit Go.Lib

set_option maxHeartbeats 1000000 in
set_option maxRecDepth 100000 in
theorem dialLengths_walk (y m : Int) (w : World) :
    Calls Try.prog 4 #[.int .i64 y, .int .i64 m] w fun e w' => e = .returned (.bool true) ∧ Below w.heap.size w w' := by
  have HLV := fun W => Lib.hid (lives_any W)
  by_cases h : (1 ≤ y ∧ y ≤ 9999) ∧ (1 ≤ m ∧ m ≤ 12)
  · have HL := fun W => Lib.hid (length_ok y m W h)
    obtain ⟨⟨y1, y2⟩, m1, m2⟩ := h
    have HR := fun W => Lib.hid (refLeap_any y W (by omega))
    have HD := fun b W => Lib.hid (refLength_any m b W m1 m2)
    generalize leapB y = b at *
    have HD1 := fun W => HD b W
    clear HD
    generalize monD m b = k at *
    go_enter Try.func4, Try.ntmps4
    go_wp2_with (first | (go_at_call 30; ((with_reducible refine (HL _).out.mono ?_); rintro e w1 ⟨rfl, hk1⟩; have hb1 := hk1.below)) | (go_at_call 32; ((with_reducible refine (HR _).out.mono ?_); rintro e w' ⟨rfl, rfl⟩)) | (go_at_call 31; ((with_reducible refine (HD1 _).out.mono ?_); rintro e w2 ⟨rfl, hk2⟩; have hb2 := hk2.below)) | (go_at_call 29; ((with_reducible refine (HLV _).out.mono ?_); rintro e w9 ⟨rfl, hk9⟩; have hb9 := hk9.below)))
    go_ret
    exact ⟨rfl, by (with_reducible repeat (first | exact Below.refl _ _ | refine bl_alloc ?_ _ | refine bl_drew ?_ | refine bl_drewN ?_ _ | (refine bl_set ?_ ?_ _; (focus dsimp only; omega)) | refine bl_call ?_ hb9 | refine bl_call ?_ hb2 | refine bl_call ?_ hb1))⟩
  · have HL := fun W => Lib.hid (length_bad y m W h)
    by_cases c0 : y < 1
    · clear h
      go_enter Try.func4, Try.ntmps4
      go_wp2_with (first | (go_at_call 30; ((with_reducible refine (HL _).out.mono ?_); rintro e w1 ⟨rfl, hk1⟩; have hb1 := hk1.below)) | (go_at_call 29; ((with_reducible refine (HLV _).out.mono ?_); rintro e w9 ⟨rfl, hk9⟩; have hb9 := hk9.below)))
      go_ret
      exact ⟨rfl, by (with_reducible repeat (first | exact Below.refl _ _ | refine bl_alloc ?_ _ | refine bl_drew ?_ | refine bl_drewN ?_ _ | (refine bl_set ?_ ?_ _; (focus dsimp only; omega)) | refine bl_call ?_ hb9 | refine bl_call ?_ hb1))⟩
    have d0 : 1 ≤ y := by omega
    clear c0
    by_cases c1 : 9999 < y
    · clear h
      go_enter Try.func4, Try.ntmps4
      go_wp2_with (first | (go_at_call 30; ((with_reducible refine (HL _).out.mono ?_); rintro e w1 ⟨rfl, hk1⟩; have hb1 := hk1.below)) | (go_at_call 29; ((with_reducible refine (HLV _).out.mono ?_); rintro e w9 ⟨rfl, hk9⟩; have hb9 := hk9.below)))
      go_ret
      exact ⟨rfl, by (with_reducible repeat (first | exact Below.refl _ _ | refine bl_alloc ?_ _ | refine bl_drew ?_ | refine bl_drewN ?_ _ | (refine bl_set ?_ ?_ _; (focus dsimp only; omega)) | refine bl_call ?_ hb9 | refine bl_call ?_ hb1))⟩
    have d1 : y ≤ 9999 := by omega
    clear c1
    by_cases c2 : m < 1
    · clear h
      go_enter Try.func4, Try.ntmps4
      go_wp2_with (first | (go_at_call 30; ((with_reducible refine (HL _).out.mono ?_); rintro e w1 ⟨rfl, hk1⟩; have hb1 := hk1.below)) | (go_at_call 29; ((with_reducible refine (HLV _).out.mono ?_); rintro e w9 ⟨rfl, hk9⟩; have hb9 := hk9.below)))
      go_ret
      exact ⟨rfl, by (with_reducible repeat (first | exact Below.refl _ _ | refine bl_alloc ?_ _ | refine bl_drew ?_ | refine bl_drewN ?_ _ | (refine bl_set ?_ ?_ _; (focus dsimp only; omega)) | refine bl_call ?_ hb9 | refine bl_call ?_ hb1))⟩
    have d2 : 1 ≤ m := by omega
    clear c2
    have c3 : 12 < m := by omega
    clear h
    go_enter Try.func4, Try.ntmps4
    go_wp2_with (first | (go_at_call 30; ((with_reducible refine (HL _).out.mono ?_); rintro e w1 ⟨rfl, hk1⟩; have hb1 := hk1.below)) | (go_at_call 29; ((with_reducible refine (HLV _).out.mono ?_); rintro e w9 ⟨rfl, hk9⟩; have hb9 := hk9.below)))
    go_ret
    exact ⟨rfl, by (with_reducible repeat (first | exact Below.refl _ _ | refine bl_alloc ?_ _ | refine bl_drew ?_ | refine bl_drewN ?_ _ | (refine bl_set ?_ ?_ _; (focus dsimp only; omega)) | refine bl_call ?_ hb9 | refine bl_call ?_ hb1))⟩
end Go.Proofs.Ytmcndbfnjpkelaa
