/- Walks of the statements' own helper lives (dial): what every program must return. -/
import Derived.Test.YtmcndbfnjpkelaaDc
import Derived.Test.YtmcndbfnjpkelaaDy
namespace Go.Proofs.Ytmcndbfnjpkelaa
set_option linter.unusedVariables false
set_option linter.unusedSimpArgs false
open Go.RowKit Go.Lib

theorem ps_two {w : World} {t : TypeId} {b : Nat} (x1 y1 x2 y2 : Int) (hb : w.heap.size = b) : PsAt (w.alloc (.cells #[.int .i64 x1, .int .i64 y1, .int .i64 x2, .int .i64 y2] t)) b 0 [(x1, y1), (x2, y2)] := by
  intro i hi
  have hi' : i < 2 := hi
  rcases (show i = 0 ∨ i = 1 by omega) with rfl | rfl
  · exact ⟨kc_new hb rfl, kc_new hb rfl⟩
  · exact ⟨kc_new hb rfl, kc_new hb rfl⟩

theorem play_two (w : World) (t : TypeId) (b : Nat) (hb : w.heap.size = b) :
    Calls Try.prog 49 #[.slice (some ⟨b, 0, none⟩) 2 2, .int .i64 200] (w.alloc (.cells #[.int .i64 80, .int .i64 1, .int .i64 160, .int .i64 3] t)) fun v w' => v = .returned (.tuple #[.agg #[.bool true, .bool true, .int .i64 120, .int .i64 80], .int .i64 0]) ∧ Gro (w.alloc (.cells #[.int .i64 80, .int .i64 1, .int .i64 160, .int .i64 3] t)) w' := by
  have h := play_at 2 b 0 2 2 [(80, 1), (160, 3)] 200 _ (Lib.hid rfl) (by omega) (by omega) (Lib.hid (ps_two (t := t) 80 1 160 3 hb)) (Lib.hid (by decide)) (by omega) (Lib.hid (by decide)) (Lib.hid (.inl rfl)) (by omega) (by omega)
  exact h

set_option maxHeartbeats 1000000 in
set_option maxRecDepth 100000 in
theorem lives_any (w : World) : Calls Try.prog 29 #[] w fun e w' => e = .returned (.bool true) ∧ Gro w w' := by
  have HN := fun W => Lib.hid (number_ok 2000 1 1 W (by decide))
  have HW := fun W => Lib.hid (weekday_ok 2000 1 1 W (by decide))
  rw [show numD 2000 1 1 = 730119 by decide] at HN HW
  rw [show ((730119 : Int) + 1) % 7 = 6 by decide] at HW
  have HP := fun W t b h => Lib.hid (play_two W t b h)
  go_enter Try.func29, Try.ntmps29
  go_wp2_with (first | (go_at_call 22; ((with_reducible refine (HN _).out.mono ?_); rintro e w1 ⟨rfl, hk1⟩; have hb1 := hk1.below)) | (go_at_call 23; ((with_reducible refine (HW _).out.mono ?_); rintro e w2 ⟨rfl, hk2⟩; have hb2 := hk2.below)) | (go_at_call 49; ((refine (HP _ _ _ rfl).out.mono ?_); rintro e w3 ⟨rfl, hk3⟩; have hb3 := hk3.below)))
  go_ret
  exact ⟨rfl, by (with_reducible repeat (first | exact gro_refl _ | refine gro_alloc ?_ _ | refine gro_drew ?_ | refine gro_drewN ?_ _ | (refine gro_set ?_ ?_ _; (focus first | omega | (dsimp only; omega))) | refine gro_call ?_ hk3 | refine gro_call ?_ hk2 | refine gro_call ?_ hk1))⟩
end Go.Proofs.Ytmcndbfnjpkelaa
