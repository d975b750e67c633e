/- The walk of DialSum. -/
import Derived.Test.YtmcndbfnjpkelaaFe
import Derived.Test.YtmcndbfnjpkelaaDlv
namespace Go.Proofs.Ytmcndbfnjpkelaa
set_option linter.unusedVariables false
set_option linter.unusedSimpArgs false
open Go.RowKit Go.Lib

set_option maxHeartbeats 1000000 in
set_option maxRecDepth 100000 in
theorem dialSum_walk (d m l u o a b : Int) (hf : (-9223372036854775808 ≤ d ∧ d ≤ 9223372036854775807) ∧ (-9223372036854775808 ≤ m ∧ m ≤ 9223372036854775807) ∧ (-9223372036854775808 ≤ l ∧ l ≤ 9223372036854775807) ∧ (-9223372036854775808 ≤ u ∧ u ≤ 9223372036854775807) ∧ (-9223372036854775808 ≤ o ∧ o ≤ 9223372036854775807)) (ha : (-9223372036854775808 ≤ a ∧ a ≤ 9223372036854775807)) (hb : (-9223372036854775808 ≤ b ∧ b ≤ 9223372036854775807)) (w : World) :
    Calls Try.prog 16 #[.agg #[.int .i64 d, .int .i64 m, .int .i64 l, .int .i64 u, .int .i64 o], .int .i64 a, .int .i64 b] w fun e w' => e = .returned (.bool true) ∧ Below w.heap.size w w' := by
  have HLV := fun W => Lib.hid (lives_any W)
  obtain ⟨hd, hm, hl, hu, ho⟩ := hf
  obtain ⟨m0, em⟩ : ∃ x, m % 12 = x := ⟨_, rfl⟩
  obtain ⟨m1, em1⟩ : ∃ x, m0 + 1 = x := ⟨_, rfl⟩
  obtain ⟨l1, el⟩ : ∃ x, l % 4 = x := ⟨_, rfl⟩
  obtain ⟨u1, eu⟩ : ∃ x, u % 7 = x := ⟨_, rfl⟩
  obtain ⟨o1, eo⟩ : ∃ x, o % 59 = x := ⟨_, rfl⟩
  obtain ⟨k, ek⟩ : ∃ x, monD m1 (decide (l1 = 0)) = x := ⟨_, rfl⟩
  obtain ⟨d0, ed⟩ : ∃ x, d % k = x := ⟨_, rfl⟩
  have HFc := fun W => Lib.hid (faced_any d m l u o W hd hm hl hu ho k m0 m1 l1 u1 o1 d0 em em1 el eu eo ek ed)
  have hk := mon_bd m1 (decide (l1 = 0))
  rw [ek] at hk
  have hd1 : 0 ≤ d0 ∧ d0 < k := by
    have h1 := Int.emod_nonneg d (show k ≠ 0 by omega)
    have h2 := Int.emod_lt_of_pos d (show 0 < k by omega)
    omega
  have hv : VF (d0 + 1) m1 l1 := ⟨by omega, by omega, by omega, by rw [ek]; omega⟩
  have hu1 : 0 ≤ u1 ∧ u1 ≤ 6 := by omega
  have ho1 : 0 ≤ o1 ∧ o1 ≤ 58 := by omega
  generalize d0 + 1 = d1 at *
  clear hd hm hl hu ho em em1 el eu eo ek ed hk hd1
  have hp := pos_bd hv
  have HA := fun W => Lib.hid (fold_any a 50001 W (by omega) (by omega) ha.1 ha.2)
  have HB := fun W => Lib.hid (fold_any b 50001 W (by omega) (by omega) hb.1 hb.2)
  have n1 : 0 ≤ a % 50001 ∧ a % 50001 ≤ 50000 := by omega
  have n2 : 0 ≤ b % 50001 ∧ b % 50001 ≤ 50000 := by omega
  generalize a % 50001 = s at *
  generalize b % 50001 = t at *
  obtain ⟨x1, y1, z1, hv1, e1⟩ := face_of (p := (posD d1 m1 l1 + s) % 1461) (by omega) (by omega)
  obtain ⟨x2, y2, z2, hv2, e2⟩ := face_of (p := (posD x1 y1 z1 + t) % 1461) (by omega) (by omega)
  have HM1 := fun W => Lib.hid (midnight_ok d1 m1 l1 u1 o1 s x1 y1 z1 W hv hv1 e1 hu1 ho1 (by omega))
  have HM2 := fun W => Lib.hid (midnight_ok x1 y1 z1 ((u1 + s) % 7) ((o1 + s) % 59) t x2 y2 z2 W hv1 hv2 e2 (by omega) (by omega) (by omega))
  have HM3 := fun W => Lib.hid (midnight_ok d1 m1 l1 u1 o1 (s + t) x2 y2 z2 W hv hv2 (by rw [e2, e1]; omega) hu1 ho1 (by omega))
  rw [show (u1 + (s + t)) % 7 = ((u1 + s) % 7 + t) % 7 by omega, show (o1 + (s + t)) % 59 = ((o1 + s) % 59 + t) % 59 by omega] at HM3
  generalize ((u1 + s) % 7 + t) % 7 = u3 at *
  generalize ((o1 + s) % 59 + t) % 59 = o3 at *
  generalize (u1 + s) % 7 = u2 at *
  generalize (o1 + s) % 59 = o2 at *
  obtain ⟨n1, n3⟩ := n1
  obtain ⟨n2, n4⟩ := n2
  clear hv hv1 hv2 e1 e2 hp hu1 ho1 ha hb
  go_enter Try.func16, Try.ntmps16
  go_wp2_with (first | (go_at_call 57; ((with_reducible refine (HFc _).out.mono ?_); rintro v w1 ⟨rfl, hk1⟩; have hb1 := hk1.below; have hz1 := hb1.size; (try simp only [World.size_alloc, World.size_setCell, World.size_drew, size_drewN] at hz1); have hG : Gro w w1 := (by (with_reducible repeat (first | exact gro_refl _ | refine gro_alloc ?_ _ | refine gro_drew ?_ | refine gro_drewN ?_ _ | (refine gro_set ?_ ?_ _; (focus first | omega | (dsimp only; omega))) | refine gro_call ?_ hk1))))) | (go_at_call 39; have hgd := hb3; clear hgd; ((with_reducible refine (HM3 _).out.mono ?_); rintro v w4 ⟨rfl, hk4⟩; have hb4 := hk4.below; have ⟨q0, q1, q2, q3, q4⟩ : w4.cell? ⟨w3.heap.size, 0, none⟩ = some (.int .i64 x2) ∧ w4.cell? ⟨w3.heap.size, 1, none⟩ = some (.int .i64 y2) ∧ w4.cell? ⟨w3.heap.size, 2, none⟩ = some (.int .i64 z2) ∧ w4.cell? ⟨w3.heap.size, 3, none⟩ = some (.int .i64 u3) ∧ w4.cell? ⟨w3.heap.size, 4, none⟩ = some (.int .i64 o3) := (by and_intros <;> (with_reducible repeat (first | exact q0 | exact q1 | exact q2 | exact q3 | exact q4 | exact q5 | exact q6 | exact q7 | exact q8 | exact q9 | exact q10 | exact q11 | exact q12 | exact q13 | exact q14 | exact q15 | exact q16 | exact q17 | exact q18 | exact q19 | refine kc_drew ?_ | refine kc_drewN _ ?_ | refine kc_below hb4 ?_ | (refine kc_new ?_ ?_; (focus first | rfl | (simp only [World.size_alloc, World.size_setCell, World.size_drew, size_drewN]; done)); (focus first | rfl | (simp; done))) | (refine kc_set0 ?_ ?_; (focus first | rfl | (simp; done))) | exact ct_of (by assumption) | refine ct_drew ?_ | refine ct_drewN _ ?_ | refine ct_below hb4 ?_ | (refine ct_new ?_ ?_; (focus first | rfl | (simp only [World.size_alloc, World.size_setCell, World.size_drew, size_drewN]; done)); (focus first | rfl | (simp; done))) | refine ct_set _ _ ?_ | refine ct_alloc _ ?_ | (refine kc_set ?_ ?_; (focus first | (intro hx; injection hx; omega) | (simp; done))) | refine kc_alloc _ ?_))); have hz4 := hb4.size; (try simp only [World.size_alloc, World.size_setCell, World.size_drew, size_drewN] at hz4); have g0 : w3.heap.size < w4.heap.size := (by omega); have hG : Gro w w4 := (by (with_reducible repeat (first | exact hG | exact gro_refl _ | refine gro_alloc ?_ _ | refine gro_drew ?_ | refine gro_drewN ?_ _ | (refine gro_set ?_ ?_ _; (focus first | omega | (dsimp only; omega))) | refine gro_call ?_ hk4))))) | (go_at_call 39; have hgd := hb2; clear hgd; ((with_reducible refine (HM2 _).out.mono ?_); rintro v w3 ⟨rfl, hk3⟩; have hb3 := hk3.below; have ⟨q0, q1, q2, q3, q4⟩ : w3.cell? ⟨w1.heap.size, 0, none⟩ = some (.int .i64 d1) ∧ w3.cell? ⟨w1.heap.size, 1, none⟩ = some (.int .i64 m1) ∧ w3.cell? ⟨w1.heap.size, 2, none⟩ = some (.int .i64 l1) ∧ w3.cell? ⟨w1.heap.size, 3, none⟩ = some (.int .i64 u1) ∧ w3.cell? ⟨w1.heap.size, 4, none⟩ = some (.int .i64 o1) := (by and_intros <;> (with_reducible repeat (first | exact q0 | exact q1 | exact q2 | exact q3 | exact q4 | exact q5 | exact q6 | exact q7 | exact q8 | exact q9 | exact q10 | exact q11 | exact q12 | exact q13 | exact q14 | exact q15 | exact q16 | exact q17 | exact q18 | exact q19 | refine kc_drew ?_ | refine kc_drewN _ ?_ | refine kc_below hb3 ?_ | (refine kc_new ?_ ?_; (focus first | rfl | (simp only [World.size_alloc, World.size_setCell, World.size_drew, size_drewN]; done)); (focus first | rfl | (simp; done))) | (refine kc_set0 ?_ ?_; (focus first | rfl | (simp; done))) | exact ct_of (by assumption) | refine ct_drew ?_ | refine ct_drewN _ ?_ | refine ct_below hb3 ?_ | (refine ct_new ?_ ?_; (focus first | rfl | (simp only [World.size_alloc, World.size_setCell, World.size_drew, size_drewN]; done)); (focus first | rfl | (simp; done))) | refine ct_set _ _ ?_ | refine ct_alloc _ ?_ | (refine kc_set ?_ ?_; (focus first | (intro hx; injection hx; omega) | (simp; done))) | refine kc_alloc _ ?_))); have hz3 := hb3.size; (try simp only [World.size_alloc, World.size_setCell, World.size_drew, size_drewN] at hz3); have g0 : w1.heap.size < w3.heap.size := (by omega); have hG : Gro w w3 := (by (with_reducible repeat (first | exact hG | exact gro_refl _ | refine gro_alloc ?_ _ | refine gro_drew ?_ | refine gro_drewN ?_ _ | (refine gro_set ?_ ?_ _; (focus first | omega | (dsimp only; omega))) | refine gro_call ?_ hk3))))) | (go_at_call 39; ((with_reducible refine (HM1 _).out.mono ?_); rintro v w2 ⟨rfl, hk2⟩; have hb2 := hk2.below; have ⟨q0, q1, q2, q3, q4⟩ : w2.cell? ⟨w1.heap.size, 0, none⟩ = some (.int .i64 d1) ∧ w2.cell? ⟨w1.heap.size, 1, none⟩ = some (.int .i64 m1) ∧ w2.cell? ⟨w1.heap.size, 2, none⟩ = some (.int .i64 l1) ∧ w2.cell? ⟨w1.heap.size, 3, none⟩ = some (.int .i64 u1) ∧ w2.cell? ⟨w1.heap.size, 4, none⟩ = some (.int .i64 o1) := (by and_intros <;> (with_reducible repeat (first | exact q0 | exact q1 | exact q2 | exact q3 | exact q4 | exact q5 | exact q6 | exact q7 | exact q8 | exact q9 | exact q10 | exact q11 | exact q12 | exact q13 | exact q14 | exact q15 | exact q16 | exact q17 | exact q18 | exact q19 | refine kc_drew ?_ | refine kc_drewN _ ?_ | refine kc_below hb2 ?_ | (refine kc_new ?_ ?_; (focus first | rfl | (simp only [World.size_alloc, World.size_setCell, World.size_drew, size_drewN]; done)); (focus first | rfl | (simp; done))) | (refine kc_set0 ?_ ?_; (focus first | rfl | (simp; done))) | exact ct_of (by assumption) | refine ct_drew ?_ | refine ct_drewN _ ?_ | refine ct_below hb2 ?_ | (refine ct_new ?_ ?_; (focus first | rfl | (simp only [World.size_alloc, World.size_setCell, World.size_drew, size_drewN]; done)); (focus first | rfl | (simp; done))) | refine ct_set _ _ ?_ | refine ct_alloc _ ?_ | (refine kc_set ?_ ?_; (focus first | (intro hx; injection hx; omega) | (simp; done))) | refine kc_alloc _ ?_))); have hz2 := hb2.size; (try simp only [World.size_alloc, World.size_setCell, World.size_drew, size_drewN] at hz2); have g0 : w1.heap.size < w2.heap.size := (by omega); have hG : Gro w w2 := (by (with_reducible repeat (first | exact hG | exact gro_refl _ | refine gro_alloc ?_ _ | refine gro_drew ?_ | refine gro_drewN ?_ _ | (refine gro_set ?_ ?_ _; (focus first | omega | (dsimp only; omega))) | refine gro_call ?_ hk2))))) | (go_at_call_of 56 (Value.int .i64 a); ((with_reducible refine (HA _).out.mono ?_); rintro v w' ⟨rfl, rfl⟩)) | (go_at_call_of 56 (Value.int .i64 b); ((with_reducible refine (HB _).out.mono ?_); rintro v w' ⟨rfl, rfl⟩)) | (go_at_call 29; ((with_reducible refine (HLV _).out.mono ?_); rintro v w9 ⟨rfl, hk9⟩; have hb9 := hk9.below; have hz9 := hb9.size; (try simp only [World.size_alloc, World.size_setCell, World.size_drew, size_drewN] at hz9); have hG : Gro w w9 := (by (with_reducible repeat (first | exact hG | exact gro_refl _ | refine gro_alloc ?_ _ | refine gro_drew ?_ | refine gro_drewN ?_ _ | (refine gro_set ?_ ?_ _; (focus first | omega | (dsimp only; omega))) | refine gro_call ?_ hk9))))))
  go_ret
  exact ⟨rfl, by (with_reducible repeat (first | exact hG.below | exact Below.refl _ _ | refine bl_alloc ?_ _ | refine bl_drew ?_ | refine bl_drewN ?_ _ | (refine bl_set ?_ ?_ _; (focus dsimp only; omega))))⟩
end Go.Proofs.Ytmcndbfnjpkelaa
