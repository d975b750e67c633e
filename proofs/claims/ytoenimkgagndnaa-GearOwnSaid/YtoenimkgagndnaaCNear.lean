/- Walks of package gear: step, floor, nearestPart. -/
import Derived.Test.YtoenimkgagndnaaCNearM
import Derived.Test.YtoenimkgagndnaaGa
import Derived.Test.YtoenimkgagndnaaCCalm
namespace Go.Proofs.Ytoenimkgagndnaa
set_option linter.unusedVariables false
set_option linter.unusedSimpArgs false
open Go.RowKit Go.Lib

set_option maxHeartbeats 1000000 in
theorem step_any (a b c d k : Int) (w : World) (h1 : -9223372036854775808 ≤ k * c ∧ k * c ≤ 9223372036854775807) (h2 : -9223372036854775808 ≤ k * d ∧ k * d ≤ 9223372036854775807) (h3 : -9223372036854775808 ≤ a + k * c ∧ a + k * c ≤ 9223372036854775807) (h4 : -9223372036854775808 ≤ b + k * d ∧ b + k * d ≤ 9223372036854775807) :
    Calls Try.prog 97 #[.agg #[.int .i64 a, .int .i64 b], .agg #[.int .i64 c, .int .i64 d], .int .i64 k] w fun v w' => v = .returned (.agg #[.int .i64 (a + k * c), .int .i64 (b + k * d)]) ∧ Below w.heap.size w w' := by
  have e1 : IntKind.i64.wrap (k * c) = k * c := IntWalk.i64_in _ (by omega)
  have e2 : IntKind.i64.wrap (k * d) = k * d := IntWalk.i64_in _ (by omega)
  have e3 : IntKind.i64.wrap (a + k * c) = a + k * c := IntWalk.i64_in _ (by omega)
  have e4 : IntKind.i64.wrap (b + k * d) = b + k * d := IntWalk.i64_in _ (by omega)
  obtain ⟨h1, h1'⟩ := h1
  obtain ⟨h2, h2'⟩ := h2
  obtain ⟨h3, h3'⟩ := h3
  obtain ⟨h4, h4'⟩ := h4
  go_enter Try.func97, Try.ntmps97
  go_wp2_with fail
  exact bodyPost_ret (v := .agg #[.int .i64 (a + k * c), .int .i64 (b + k * d)]) (by simp [results, Try.results97, go_sem]) rfl ⟨rfl, by (with_reducible repeat (first | exact Below.refl _ _ | refine bl_alloc ?_ _ | refine bl_drew ?_ | refine bl_drewN ?_ _ | (refine bl_set ?_ ?_ _; (focus dsimp only; omega))))⟩

theorem mag_nn (a : Int) (w : World) (h0 : 0 ≤ a) (h1 : a ≤ 9223372036854775807) : Calls Try.prog 53 #[.int .i64 a] w fun e w' => e = .returned (.int .u64 a) ∧ w = w' := by
  have := mag_any a w (by omega) h1
  rwa [show ((a.natAbs : Nat) : Int) = a by omega] at this
/-- The two candidates compared. -/
theorem far_any (g q f Q : Int) (g0 : 0 ≤ g) (g1 : g ≤ 4611686018427387904) (q0 : 0 ≤ q) (q1 : q ≤ 4611686018427387904) (f0 : 0 ≤ f) (f1 : f ≤ 4611686018427387904) (Q0 : 0 ≤ Q) (Q1 : Q ≤ 4611686018427387904) :
    ∃ far : Int, (∀ W, Hid (Calls Try.prog 88 #[.agg #[.int .u64 (g * q / 18446744073709551616), .int .u64 (g * q % 18446744073709551616)], .agg #[.int .u64 (f * Q / 18446744073709551616), .int .u64 (f * Q % 18446744073709551616)]] W fun e w' => e = .returned (.int .i64 far) ∧ Gro W w')) ∧ (far < 0 ↔ g * q < f * Q) := by
  have h1 := mul_hi (x := g) (y := q) g0 (by omega) q0 (by omega)
  have h2 := mul_hi (x := f) (y := Q) f0 (by omega) Q0 (by omega)
  refine ⟨cmpZ (g * q) (f * Q), fun W => ?_, ?_⟩
  · have := wcmp_any (g * q / 18446744073709551616) (g * q % 18446744073709551616) (f * Q / 18446744073709551616) (f * Q % 18446744073709551616) W (by omega) (by omega) (by omega) (by omega) (by omega) (by omega) (by omega) (by omega)
    rw [wv_split, wv_split] at this
    exact this
  · have := cmpZ_cases' (g * q) (f * Q)
    omega

/-- What the memory holds at the head of a round: the two fractions, the result's box. -/
structure NB (w : World) (p0 q0 p1 q1 : Int) (W : World) : Prop where
  a0 : W.cell? ⟨w.heap.size + 1 + 1, 0, none⟩ = some (.int .i64 p0)
  a1 : W.cell? ⟨w.heap.size + 1 + 1, 1, none⟩ = some (.int .i64 q0)
  c0 : W.cell? ⟨w.heap.size + 1 + 1 + 1, 0, none⟩ = some (.int .i64 p1)
  c1 : W.cell? ⟨w.heap.size + 1 + 1 + 1, 1, none⟩ = some (.int .i64 q1)
  e0 : W.cell? ⟨w.heap.size + 1, 0, none⟩ = some (.int .i64 0)
  e1 : W.cell? ⟨w.heap.size + 1, 1, none⟩ = some (.int .i64 0)
  z0 : W.frozen? ⟨w.heap.size + 1, 0, none⟩ = false
  z1 : W.frozen? ⟨w.heap.size + 1, 1, none⟩ = false
  z2 : W.frozen? ⟨w.heap.size + 1 + 1, 0, none⟩ = false
  z3 : W.frozen? ⟨w.heap.size + 1 + 1, 1, none⟩ = false
  z4 : W.frozen? ⟨w.heap.size + 1 + 1 + 1, 0, none⟩ = false
  z5 : W.frozen? ⟨w.heap.size + 1 + 1 + 1, 1, none⟩ = false
  below : Below w.heap.size w W

set_option maxHeartbeats 4000000 in
set_option maxRecDepth 100000 in
theorem nearestPart_any (n d most : Int) (w : World) (h0 : 0 ≤ n) (h1 : n < d) (hd : d ≤ 4611686018427387904) (m1 : 1 ≤ most) (hm : most < d) (hg : Int.gcd n d = 1) :
    Calls Try.prog 70 #[.agg #[.int .i64 n, .int .i64 d], .int .i64 most] w fun v w' => ∃ P Q, v = .returned (.agg #[.int .i64 P, .int .i64 Q]) ∧ Hid (NearB n d most P Q) ∧ Below w.heap.size w w' := by
  have HG := Lib.hid hg
  have HST := Lib.hid (NI.start h0 h1 m1)
  clear hg
  go_enter Try.func70, Try.ntmps70
  go_wp2_with fail
  go_quiet (fail)
  go_wp2_with fail
  go_loopg [7, 8] d.toNat (fun gh u v wr => ∃ (p0 q0 p1 q1 f0 f1 : Int), f1 ≤ gh ∧ u = .int .i64 f0 ∧ v = .int .i64 f1 ∧ Hid (NI n d most p0 q0 p1 q1 f0 f1) ∧ Hid (NB w p0 q0 p1 q1 wr))
  case atStart =>
    refine ⟨0, 1, 1, 0, n, d, by omega, rfl, rfl, HST, ⟨?_, ?_, ?_, ?_, ?_, ?_, ?_, ?_, ?_, ?_, ?_, ?_, ?_⟩⟩
    all_goals first | ((with_reducible repeat (first | refine kc_drew ?_ | refine kc_drewN _ ?_ | (refine kc_new ?_ ?_; (focus first | rfl | (simp only [World.size_alloc, World.size_setCell, World.size_drew, size_drewN]; done)); (focus first | rfl | (simp; done))) | (refine kc_set0 ?_ ?_; (focus first | rfl | (simp; done))) | exact ct_of (by assumption) | refine ct_drew ?_ | refine ct_drewN _ ?_ | (refine ct_new ?_ ?_; (focus first | rfl | (simp only [World.size_alloc, World.size_setCell, World.size_drew, size_drewN]; done)); (focus first | rfl | (simp; done))) | refine ct_set _ _ ?_ | refine ct_alloc _ ?_ | (refine kc_set ?_ ?_; (focus first | (intro hx; injection hx; omega) | (simp; done))) | refine kc_alloc _ ?_)); done) | ((with_reducible repeat (first | refine kf_drew ?_ | refine kf_drewN _ ?_ | (refine kf_new ?_ _; (focus first | rfl | (simp only [World.size_alloc, World.size_setCell, World.size_drew, size_drewN]; done))) | refine kf_set _ _ ?_ | (refine kf_alloc _ ?_ ?_; (focus first | (simp only [World.size_alloc, World.size_setCell, World.size_drew, size_drewN]; omega) | (dsimp only; omega))))); done) | ((with_reducible repeat (first | exact Below.refl _ _ | refine bl_alloc ?_ _ | refine bl_drew ?_ | refine bl_drewN ?_ _ | (refine bl_set ?_ ?_ _; (focus dsimp only; omega)))); done)
  case round =>
    obtain ⟨p0, q0, p1, q1, f0, f1, hgh, rfl, rfl, HI, HN⟩ := hrel
    have I := HI.out
    have hf1 := I.pos HG.out hm
    have hf0 := I.hf0
    have hp0 := I.hp0
    have hq0 := I.hq0
    have hp1 := I.hp1
    have hq1 := I.hq1
    have hq0m := I.q0m
    have hq1m := I.q1m
    have hf0d := I.f0d h1
    have hf1d := I.f1d h1
    have hqd : 0 ≤ f0 / f1 := Int.ediv_nonneg hf0 (by omega)
    obtain ⟨⟨x1, x2⟩, x3, x4⟩ := I.le hf1 hqd (Int.ediv_mul_le _ (by omega))
    have HStep := fun W => Lib.hid (step_any p0 q0 p1 q1 (f0 / f1) W (by omega) (by omega) (by omega) (by omega))
    have hql := Int.ediv_le_self f1 hf0
    have wQ : IntKind.i64.wrap (f0.tdiv f1) = f0 / f1 := by
      rw [Int.tdiv_eq_ediv_of_nonneg hf0]
      exact IntWalk.i64_in _ ⟨by omega, by omega⟩
    have hrem := Int.emod_nonneg f0 (show f1 ≠ 0 by omega)
    have hrem2 := Int.emod_lt_of_pos f0 (show 0 < f1 by omega)
    have hrl : f0 % f1 ≤ f0 := by
      rw [Int.emod_def]
      have := Int.mul_nonneg (show 0 ≤ f1 by omega) hqd
      omega
    have wR : IntKind.i64.wrap (f0.tmod f1) = f0 % f1 := by
      rw [Int.tmod_eq_emod_of_nonneg hf0]
      exact IntWalk.i64_in _ ⟨by omega, by omega⟩
    have hn1 : ¬ f1 = 0 := by omega
    have hn2 : ¬ (f1 : Int) = 0 := by omega
    obtain ⟨r0, r1, r2, r3, r4, r5, r6, r7, r8, r9, r10, r11, hB⟩ := HN.out
    have g0 := World.block_lt_of_cell? _ _ r2
    simp only at g0
    by_cases hq : q0 + f0 / f1 * q1 ≤ most
    · have HNX := Lib.hid (I.next hf1 hq)
      have y1 : 0 ≤ p0 + f0 / f1 * p1 := by omega
      have y2 : 0 ≤ q0 + f0 / f1 * q1 := by omega
      clear I x1 x2 HI HN HST
      generalize p0 + f0 / f1 * p1 = p2 at *
      generalize q0 + f0 / f1 * q1 = q2 at *
      go_wp2_with fail
      go_region_held3 (fun w' => (w'.cell? ⟨w.heap.size + 1 + 1, 0, none⟩ = some (.int .i64 p0) ∧ w'.cell? ⟨w.heap.size + 1 + 1, 1, none⟩ = some (.int .i64 q0)) ∧ w'.cell? ⟨w.heap.size + 1 + 1 + 1, 0, none⟩ = some (.int .i64 p1) ∧ w'.cell? ⟨w.heap.size + 1 + 1 + 1, 1, none⟩ = some (.int .i64 q1))
        (((try dsimp only); (repeat' apply And.intro)) <;> (with_reducible repeat (first | exact r0 | exact r1 | exact r2 | exact r3 | refine kc_drew ?_ | refine kc_drewN _ ?_ | refine kc_below hb2 ?_ | (refine kc_new ?_ ?_; (focus first | rfl | (simp only [World.size_alloc, World.size_setCell, World.size_drew, size_drewN]; done)); (focus first | rfl | (simp; done))) | (refine kc_set0 ?_ ?_; (focus first | rfl | (simp; done))) | exact ct_of (by assumption) | refine ct_drew ?_ | refine ct_drewN _ ?_ | refine ct_below hb2 ?_ | (refine ct_new ?_ ?_; (focus first | rfl | (simp only [World.size_alloc, World.size_setCell, World.size_drew, size_drewN]; done)); (focus first | rfl | (simp; done))) | refine ct_set _ _ ?_ | refine ct_alloc _ ?_ | (refine kc_set ?_ ?_; (focus first | (intro hx; injection hx; omega) | (simp; done))) | refine kc_alloc _ ?_)))
        (first
          | (go_at_call 97; ((with_reducible refine (HStep (World.drew (World.alloc _ _))).out.mono ?_); rintro v w2 ⟨rfl, hb2⟩; have hz2 := hb2.size; (try simp only [World.size_alloc, World.size_setCell, World.size_drew, size_drewN] at hz2); have ⟨r0, r1, r2, r3, r4, r5, r12, r13⟩ : w2.cell? ⟨w.heap.size + 1 + 1, 0, none⟩ = some (.int .i64 p0) ∧ w2.cell? ⟨w.heap.size + 1 + 1, 1, none⟩ = some (.int .i64 q0) ∧ w2.cell? ⟨w.heap.size + 1 + 1 + 1, 0, none⟩ = some (.int .i64 p1) ∧ w2.cell? ⟨w.heap.size + 1 + 1 + 1, 1, none⟩ = some (.int .i64 q1) ∧ w2.cell? ⟨w.heap.size + 1, 0, none⟩ = some (.int .i64 0) ∧ w2.cell? ⟨w.heap.size + 1, 1, none⟩ = some (.int .i64 0) ∧ w2.cell? ⟨wr.heap.size, 0, none⟩ = some (.int .i64 0) ∧ w2.cell? ⟨wr.heap.size, 1, none⟩ = some (.int .i64 0) := (by and_intros <;> (with_reducible repeat (first | exact r0 | exact r1 | exact r2 | exact r3 | exact r4 | exact r5 | exact r6 | exact r7 | exact r8 | exact r9 | exact r10 | exact r11 | refine kc_drew ?_ | refine kc_drewN _ ?_ | refine kc_below hb2 ?_ | (refine kc_new ?_ ?_; (focus first | rfl | (simp only [World.size_alloc, World.size_setCell, World.size_drew, size_drewN]; done)); (focus first | rfl | (simp; done))) | (refine kc_set0 ?_ ?_; (focus first | rfl | (simp; done))) | exact ct_of (by assumption) | refine ct_drew ?_ | refine ct_drewN _ ?_ | refine ct_below hb2 ?_ | (refine ct_new ?_ ?_; (focus first | rfl | (simp only [World.size_alloc, World.size_setCell, World.size_drew, size_drewN]; done)); (focus first | rfl | (simp; done))) | refine ct_set _ _ ?_ | refine ct_alloc _ ?_ | (refine kc_set ?_ ?_; (focus first | (intro hx; injection hx; omega) | (simp; done))) | refine kc_alloc _ ?_))); have ⟨r6, r7, r8, r9, r10, r11, r14, r15⟩ : w2.frozen? ⟨w.heap.size + 1, 0, none⟩ = false ∧ w2.frozen? ⟨w.heap.size + 1, 1, none⟩ = false ∧ w2.frozen? ⟨w.heap.size + 1 + 1, 0, none⟩ = false ∧ w2.frozen? ⟨w.heap.size + 1 + 1, 1, none⟩ = false ∧ w2.frozen? ⟨w.heap.size + 1 + 1 + 1, 0, none⟩ = false ∧ w2.frozen? ⟨w.heap.size + 1 + 1 + 1, 1, none⟩ = false ∧ w2.frozen? ⟨wr.heap.size, 0, none⟩ = false ∧ w2.frozen? ⟨wr.heap.size, 1, none⟩ = false := (by and_intros <;> (with_reducible repeat (first | exact r0 | exact r1 | exact r2 | exact r3 | exact r4 | exact r5 | exact r6 | exact r7 | exact r8 | exact r9 | exact r10 | exact r11 | refine kf_drew ?_ | refine kf_drewN _ ?_ | (refine kf_new ?_ _; (focus first | rfl | (simp only [World.size_alloc, World.size_setCell, World.size_drew, size_drewN]; done))) | refine kf_set _ _ ?_ | (refine kf_below hb2 ?_ ?_; (focus simp only [World.size_alloc, World.size_setCell, World.size_drew, size_drewN]; omega)) | (refine kf_alloc _ ?_ ?_; (focus first | (simp only [World.size_alloc, World.size_setCell, World.size_drew, size_drewN]; omega) | (dsimp only; omega)))))); have hBw : Below w.heap.size w w2 := (by (with_reducible repeat (first | exact hB | exact Below.refl _ _ | refine bl_alloc ?_ _ | refine bl_drew ?_ | refine bl_drewN ?_ _ | (refine bl_set ?_ ?_ _; (focus dsimp only; omega)) | refine bl_call ?_ hb2))); have g2 : w.heap.size + 1 + 1 + 1 < w2.heap.size := (by omega); have g3 : wr.heap.size < w2.heap.size := (by omega)))
          | (go_at_call 97; ((with_reducible refine (HStep _).out.mono ?_); rintro v w2 ⟨rfl, hb2⟩; have hz2 := hb2.size; (try simp only [World.size_alloc, World.size_setCell, World.size_drew, size_drewN] at hz2); have ⟨r0, r1, r2, r3, r4, r5⟩ : w2.cell? ⟨w.heap.size + 1 + 1, 0, none⟩ = some (.int .i64 p0) ∧ w2.cell? ⟨w.heap.size + 1 + 1, 1, none⟩ = some (.int .i64 q0) ∧ w2.cell? ⟨w.heap.size + 1 + 1 + 1, 0, none⟩ = some (.int .i64 p1) ∧ w2.cell? ⟨w.heap.size + 1 + 1 + 1, 1, none⟩ = some (.int .i64 q1) ∧ w2.cell? ⟨w.heap.size + 1, 0, none⟩ = some (.int .i64 0) ∧ w2.cell? ⟨w.heap.size + 1, 1, none⟩ = some (.int .i64 0) := (by and_intros <;> (with_reducible repeat (first | exact r0 | exact r1 | exact r2 | exact r3 | exact r4 | exact r5 | exact r6 | exact r7 | exact r8 | exact r9 | exact r10 | exact r11 | refine kc_drew ?_ | refine kc_drewN _ ?_ | refine kc_below hb2 ?_ | (refine kc_new ?_ ?_; (focus first | rfl | (simp only [World.size_alloc, World.size_setCell, World.size_drew, size_drewN]; done)); (focus first | rfl | (simp; done))) | (refine kc_set0 ?_ ?_; (focus first | rfl | (simp; done))) | exact ct_of (by assumption) | refine ct_drew ?_ | refine ct_drewN _ ?_ | refine ct_below hb2 ?_ | (refine ct_new ?_ ?_; (focus first | rfl | (simp only [World.size_alloc, World.size_setCell, World.size_drew, size_drewN]; done)); (focus first | rfl | (simp; done))) | refine ct_set _ _ ?_ | refine ct_alloc _ ?_ | (refine kc_set ?_ ?_; (focus first | (intro hx; injection hx; omega) | (simp; done))) | refine kc_alloc _ ?_))); have ⟨r6, r7, r8, r9, r10, r11⟩ : w2.frozen? ⟨w.heap.size + 1, 0, none⟩ = false ∧ w2.frozen? ⟨w.heap.size + 1, 1, none⟩ = false ∧ w2.frozen? ⟨w.heap.size + 1 + 1, 0, none⟩ = false ∧ w2.frozen? ⟨w.heap.size + 1 + 1, 1, none⟩ = false ∧ w2.frozen? ⟨w.heap.size + 1 + 1 + 1, 0, none⟩ = false ∧ w2.frozen? ⟨w.heap.size + 1 + 1 + 1, 1, none⟩ = false := (by and_intros <;> (with_reducible repeat (first | exact r0 | exact r1 | exact r2 | exact r3 | exact r4 | exact r5 | exact r6 | exact r7 | exact r8 | exact r9 | exact r10 | exact r11 | refine kf_drew ?_ | refine kf_drewN _ ?_ | (refine kf_new ?_ _; (focus first | rfl | (simp only [World.size_alloc, World.size_setCell, World.size_drew, size_drewN]; done))) | refine kf_set _ _ ?_ | (refine kf_below hb2 ?_ ?_; (focus simp only [World.size_alloc, World.size_setCell, World.size_drew, size_drewN]; omega)) | (refine kf_alloc _ ?_ ?_; (focus first | (simp only [World.size_alloc, World.size_setCell, World.size_drew, size_drewN]; omega) | (dsimp only; omega)))))); have hBw : Below w.heap.size w w2 := (by (with_reducible repeat (first | exact hB | exact Below.refl _ _ | refine bl_alloc ?_ _ | refine bl_drew ?_ | refine bl_drewN ?_ _ | (refine bl_set ?_ ?_ _; (focus dsimp only; omega)) | refine bl_call ?_ hb2))); have g2 : w.heap.size + 1 + 1 + 1 < w2.heap.size := (by omega))))
      all_goals go_wp2_with fail
      all_goals (have fz0 : ∀ o, (w2.alloc o).frozen? ⟨w.heap.size + 1 + 1, 0, none⟩ = false := (fun o => kf_alloc o (by simp only; omega) r8); have fz1 : ∀ o, (w2.alloc o).frozen? ⟨w.heap.size + 1 + 1, 1, none⟩ = false := (fun o => kf_alloc o (by simp only; omega) r9); have fz2 : ∀ o, (w2.alloc o).frozen? ⟨w.heap.size + 1 + 1 + 1, 0, none⟩ = false := (fun o => kf_alloc o (by simp only; omega) r10); have fz3 : ∀ o, (w2.alloc o).frozen? ⟨w.heap.size + 1 + 1 + 1, 1, none⟩ = false := (fun o => kf_alloc o (by simp only; omega) r11))
      all_goals go_region
      all_goals go_wp2_with fail
      all_goals go_quiet (fail)
      all_goals go_wp2_with fail
      all_goals
        go_roundg (f0 % f1).toNat
        case measure => omega
        case rel =>
          refine ⟨p1, q1, p2, q2, f1, f0 % f1, by omega, rfl, rfl, HNX, ⟨?_, ?_, ?_, ?_, ?_, ?_, ?_, ?_, ?_, ?_, ?_, ?_, ?_⟩⟩
          all_goals first | ((with_reducible repeat (first | exact r0 | exact r1 | exact r2 | exact r3 | exact r4 | exact r5 | refine kc_drew ?_ | refine kc_drewN _ ?_ | (refine kc_new ?_ ?_; (focus first | rfl | (simp only [World.size_alloc, World.size_setCell, World.size_drew, size_drewN]; done)); (focus first | rfl | (simp; done))) | (refine kc_set0 ?_ ?_; (focus first | rfl | (simp; done))) | exact ct_of (by assumption) | refine ct_drew ?_ | refine ct_drewN _ ?_ | (refine ct_new ?_ ?_; (focus first | rfl | (simp only [World.size_alloc, World.size_setCell, World.size_drew, size_drewN]; done)); (focus first | rfl | (simp; done))) | refine ct_set _ _ ?_ | refine ct_alloc _ ?_ | (refine kc_set ?_ ?_; (focus first | (intro hx; injection hx; omega) | (simp; done))) | refine kc_alloc _ ?_)); done) | ((with_reducible repeat (first | exact r6 | exact r7 | exact r8 | exact r9 | exact r10 | exact r11 | refine kf_drew ?_ | refine kf_drewN _ ?_ | (refine kf_new ?_ _; (focus first | rfl | (simp only [World.size_alloc, World.size_setCell, World.size_drew, size_drewN]; done))) | refine kf_set _ _ ?_ | (refine kf_alloc _ ?_ ?_; (focus first | (simp only [World.size_alloc, World.size_setCell, World.size_drew, size_drewN]; omega) | (dsimp only; omega))))); done) | ((with_reducible repeat (first | exact hBw | exact Below.refl _ _ | refine bl_alloc ?_ _ | refine bl_drew ?_ | refine bl_drewN ?_ _ | (refine bl_set ?_ ?_ _; (focus dsimp only; omega)))); done)
    · obtain ⟨c, hc⟩ : ∃ c, (most - q0) / q1 = c := ⟨_, rfl⟩
      obtain ⟨q1', c0, cf, g1, S1, S2, D1, D2⟩ := I.done hf1 h1 (show most < q0 + f0 / f1 * q1 by omega) m1 hc
      obtain ⟨⟨u1, u2⟩, u3, u4⟩ := I.le hf1 c0 cf
      have hcf0 : 0 ≤ c * f1 := Int.mul_nonneg c0 (by omega)
      have HS2 := fun W => Lib.hid (step_any p0 q0 p1 q1 c W (by omega) (by omega) (by omega) (by omega))
      have wG : IntKind.i64.wrap (c * f1) = c * f1 := IntWalk.i64_in _ (by omega)
      have hmq : 0 ≤ most - q0 := by omega
      have y1 : 0 ≤ p0 + f0 / f1 * p1 := by omega
      have y2 : most < q0 + f0 / f1 * q1 := by omega
      have hcm : c ≤ most := by
        rw [← hc]
        have := Int.ediv_le_self q1 hmq
        omega
      obtain ⟨g, hg⟩ : ∃ g, f0 - c * f1 = g := ⟨_, rfl⟩
      rw [hg] at g1 D1 D2
      have hgd : g ≤ d := by omega
      have HD : Hid ((g * q1 < f1 * (q0 + c * q1) → NearB n d most (p0 + c * p1) (q0 + c * q1)) ∧ (¬ g * q1 < f1 * (q0 + c * q1) → NearB n d most p1 q1)) := ⟨D1, D2⟩
      clear I x1 x2 HI HN HST D1 D2 hq
      generalize p0 + f0 / f1 * p1 = p2 at *
      generalize q0 + f0 / f1 * q1 = q2 at *
      generalize p0 + c * p1 = P2 at *
      generalize q0 + c * q1 = Q2 at *
      have HMg := fun W => Lib.hid (mag_nn g W (by omega) (by omega))
      have HMq := fun W => Lib.hid (mag_nn q1 W (by omega) (by omega))
      have HMf := fun W => Lib.hid (mag_nn f1 W (by omega) (by omega))
      have HMQ := fun W => Lib.hid (mag_nn Q2 W (by omega) (by omega))
      have HP1 := fun W => Lib.hid (product_any g q1 W (by omega) (by omega) (by omega) (by omega))
      have HP2 := fun W => Lib.hid (product_any f1 Q2 W (by omega) (by omega) (by omega) (by omega))
      obtain ⟨far, HC, hfar⟩ := far_any g q1 f1 Q2 (by omega) (by omega) (by omega) (by omega) (by omega) (by omega) (by omega) (by omega)
      have HFar : Hid (far < 0 ↔ g * q1 < f1 * Q2) := hfar
      clear hfar
      generalize g * q1 / 18446744073709551616 = ha at *
      generalize g * q1 % 18446744073709551616 = la at *
      generalize f1 * Q2 / 18446744073709551616 = hb' at *
      generalize f1 * Q2 % 18446744073709551616 = lb at *
      go_wp2_with fail
      go_region_held3 (fun w' => (w'.cell? ⟨w.heap.size + 1 + 1, 0, none⟩ = some (.int .i64 p0) ∧ w'.cell? ⟨w.heap.size + 1 + 1, 1, none⟩ = some (.int .i64 q0)) ∧ w'.cell? ⟨w.heap.size + 1 + 1 + 1, 0, none⟩ = some (.int .i64 p1) ∧ w'.cell? ⟨w.heap.size + 1 + 1 + 1, 1, none⟩ = some (.int .i64 q1))
        (((try dsimp only); (repeat' apply And.intro)) <;> (with_reducible repeat (first | exact r0 | exact r1 | exact r2 | exact r3 | refine kc_drew ?_ | refine kc_drewN _ ?_ | refine kc_below hb2 ?_ | (refine kc_new ?_ ?_; (focus first | rfl | (simp only [World.size_alloc, World.size_setCell, World.size_drew, size_drewN]; done)); (focus first | rfl | (simp; done))) | (refine kc_set0 ?_ ?_; (focus first | rfl | (simp; done))) | exact ct_of (by assumption) | refine ct_drew ?_ | refine ct_drewN _ ?_ | refine ct_below hb2 ?_ | (refine ct_new ?_ ?_; (focus first | rfl | (simp only [World.size_alloc, World.size_setCell, World.size_drew, size_drewN]; done)); (focus first | rfl | (simp; done))) | refine ct_set _ _ ?_ | refine ct_alloc _ ?_ | (refine kc_set ?_ ?_; (focus first | (intro hx; injection hx; omega) | (simp; done))) | refine kc_alloc _ ?_)))
        (first
          | (go_at_call 97; ((with_reducible refine (HStep (World.drew (World.alloc _ _))).out.mono ?_); rintro v w2 ⟨rfl, hb2⟩; have hz2 := hb2.size; (try simp only [World.size_alloc, World.size_setCell, World.size_drew, size_drewN] at hz2); have ⟨r0, r1, r2, r3, r4, r5, r12, r13⟩ : w2.cell? ⟨w.heap.size + 1 + 1, 0, none⟩ = some (.int .i64 p0) ∧ w2.cell? ⟨w.heap.size + 1 + 1, 1, none⟩ = some (.int .i64 q0) ∧ w2.cell? ⟨w.heap.size + 1 + 1 + 1, 0, none⟩ = some (.int .i64 p1) ∧ w2.cell? ⟨w.heap.size + 1 + 1 + 1, 1, none⟩ = some (.int .i64 q1) ∧ w2.cell? ⟨w.heap.size + 1, 0, none⟩ = some (.int .i64 0) ∧ w2.cell? ⟨w.heap.size + 1, 1, none⟩ = some (.int .i64 0) ∧ w2.cell? ⟨wr.heap.size, 0, none⟩ = some (.int .i64 0) ∧ w2.cell? ⟨wr.heap.size, 1, none⟩ = some (.int .i64 0) := (by and_intros <;> (with_reducible repeat (first | exact r0 | exact r1 | exact r2 | exact r3 | exact r4 | exact r5 | exact r6 | exact r7 | exact r8 | exact r9 | exact r10 | exact r11 | refine kc_drew ?_ | refine kc_drewN _ ?_ | refine kc_below hb2 ?_ | (refine kc_new ?_ ?_; (focus first | rfl | (simp only [World.size_alloc, World.size_setCell, World.size_drew, size_drewN]; done)); (focus first | rfl | (simp; done))) | (refine kc_set0 ?_ ?_; (focus first | rfl | (simp; done))) | exact ct_of (by assumption) | refine ct_drew ?_ | refine ct_drewN _ ?_ | refine ct_below hb2 ?_ | (refine ct_new ?_ ?_; (focus first | rfl | (simp only [World.size_alloc, World.size_setCell, World.size_drew, size_drewN]; done)); (focus first | rfl | (simp; done))) | refine ct_set _ _ ?_ | refine ct_alloc _ ?_ | (refine kc_set ?_ ?_; (focus first | (intro hx; injection hx; omega) | (simp; done))) | refine kc_alloc _ ?_))); have ⟨r6, r7, r8, r9, r10, r11, r14, r15⟩ : w2.frozen? ⟨w.heap.size + 1, 0, none⟩ = false ∧ w2.frozen? ⟨w.heap.size + 1, 1, none⟩ = false ∧ w2.frozen? ⟨w.heap.size + 1 + 1, 0, none⟩ = false ∧ w2.frozen? ⟨w.heap.size + 1 + 1, 1, none⟩ = false ∧ w2.frozen? ⟨w.heap.size + 1 + 1 + 1, 0, none⟩ = false ∧ w2.frozen? ⟨w.heap.size + 1 + 1 + 1, 1, none⟩ = false ∧ w2.frozen? ⟨wr.heap.size, 0, none⟩ = false ∧ w2.frozen? ⟨wr.heap.size, 1, none⟩ = false := (by and_intros <;> (with_reducible repeat (first | exact r0 | exact r1 | exact r2 | exact r3 | exact r4 | exact r5 | exact r6 | exact r7 | exact r8 | exact r9 | exact r10 | exact r11 | refine kf_drew ?_ | refine kf_drewN _ ?_ | (refine kf_new ?_ _; (focus first | rfl | (simp only [World.size_alloc, World.size_setCell, World.size_drew, size_drewN]; done))) | refine kf_set _ _ ?_ | (refine kf_below hb2 ?_ ?_; (focus simp only [World.size_alloc, World.size_setCell, World.size_drew, size_drewN]; omega)) | (refine kf_alloc _ ?_ ?_; (focus first | (simp only [World.size_alloc, World.size_setCell, World.size_drew, size_drewN]; omega) | (dsimp only; omega)))))); have hBw : Below w.heap.size w w2 := (by (with_reducible repeat (first | exact hB | exact Below.refl _ _ | refine bl_alloc ?_ _ | refine bl_drew ?_ | refine bl_drewN ?_ _ | (refine bl_set ?_ ?_ _; (focus dsimp only; omega)) | refine bl_call ?_ hb2))); have g2 : w.heap.size + 1 + 1 + 1 < w2.heap.size := (by omega); have g3 : wr.heap.size < w2.heap.size := (by omega)))
          | (go_at_call 97; ((with_reducible refine (HStep _).out.mono ?_); rintro v w2 ⟨rfl, hb2⟩; have hz2 := hb2.size; (try simp only [World.size_alloc, World.size_setCell, World.size_drew, size_drewN] at hz2); have ⟨r0, r1, r2, r3, r4, r5⟩ : w2.cell? ⟨w.heap.size + 1 + 1, 0, none⟩ = some (.int .i64 p0) ∧ w2.cell? ⟨w.heap.size + 1 + 1, 1, none⟩ = some (.int .i64 q0) ∧ w2.cell? ⟨w.heap.size + 1 + 1 + 1, 0, none⟩ = some (.int .i64 p1) ∧ w2.cell? ⟨w.heap.size + 1 + 1 + 1, 1, none⟩ = some (.int .i64 q1) ∧ w2.cell? ⟨w.heap.size + 1, 0, none⟩ = some (.int .i64 0) ∧ w2.cell? ⟨w.heap.size + 1, 1, none⟩ = some (.int .i64 0) := (by and_intros <;> (with_reducible repeat (first | exact r0 | exact r1 | exact r2 | exact r3 | exact r4 | exact r5 | exact r6 | exact r7 | exact r8 | exact r9 | exact r10 | exact r11 | refine kc_drew ?_ | refine kc_drewN _ ?_ | refine kc_below hb2 ?_ | (refine kc_new ?_ ?_; (focus first | rfl | (simp only [World.size_alloc, World.size_setCell, World.size_drew, size_drewN]; done)); (focus first | rfl | (simp; done))) | (refine kc_set0 ?_ ?_; (focus first | rfl | (simp; done))) | exact ct_of (by assumption) | refine ct_drew ?_ | refine ct_drewN _ ?_ | refine ct_below hb2 ?_ | (refine ct_new ?_ ?_; (focus first | rfl | (simp only [World.size_alloc, World.size_setCell, World.size_drew, size_drewN]; done)); (focus first | rfl | (simp; done))) | refine ct_set _ _ ?_ | refine ct_alloc _ ?_ | (refine kc_set ?_ ?_; (focus first | (intro hx; injection hx; omega) | (simp; done))) | refine kc_alloc _ ?_))); have ⟨r6, r7, r8, r9, r10, r11⟩ : w2.frozen? ⟨w.heap.size + 1, 0, none⟩ = false ∧ w2.frozen? ⟨w.heap.size + 1, 1, none⟩ = false ∧ w2.frozen? ⟨w.heap.size + 1 + 1, 0, none⟩ = false ∧ w2.frozen? ⟨w.heap.size + 1 + 1, 1, none⟩ = false ∧ w2.frozen? ⟨w.heap.size + 1 + 1 + 1, 0, none⟩ = false ∧ w2.frozen? ⟨w.heap.size + 1 + 1 + 1, 1, none⟩ = false := (by and_intros <;> (with_reducible repeat (first | exact r0 | exact r1 | exact r2 | exact r3 | exact r4 | exact r5 | exact r6 | exact r7 | exact r8 | exact r9 | exact r10 | exact r11 | refine kf_drew ?_ | refine kf_drewN _ ?_ | (refine kf_new ?_ _; (focus first | rfl | (simp only [World.size_alloc, World.size_setCell, World.size_drew, size_drewN]; done))) | refine kf_set _ _ ?_ | (refine kf_below hb2 ?_ ?_; (focus simp only [World.size_alloc, World.size_setCell, World.size_drew, size_drewN]; omega)) | (refine kf_alloc _ ?_ ?_; (focus first | (simp only [World.size_alloc, World.size_setCell, World.size_drew, size_drewN]; omega) | (dsimp only; omega)))))); have hBw : Below w.heap.size w w2 := (by (with_reducible repeat (first | exact hB | exact Below.refl _ _ | refine bl_alloc ?_ _ | refine bl_drew ?_ | refine bl_drewN ?_ _ | (refine bl_set ?_ ?_ _; (focus dsimp only; omega)) | refine bl_call ?_ hb2))); have g2 : w.heap.size + 1 + 1 + 1 < w2.heap.size := (by omega))))
      all_goals go_wp2_with ((go_at_call 97; ((with_reducible refine (HS2 _).out.mono ?_); rintro v w4 ⟨rfl, hb4⟩; have hz4 := hb4.size; (try simp only [World.size_alloc, World.size_setCell, World.size_drew, size_drewN] at hz4); have ⟨r0, r1, r2, r3, r4, r5⟩ : w4.cell? ⟨w.heap.size + 1 + 1, 0, none⟩ = some (.int .i64 p0) ∧ w4.cell? ⟨w.heap.size + 1 + 1, 1, none⟩ = some (.int .i64 q0) ∧ w4.cell? ⟨w.heap.size + 1 + 1 + 1, 0, none⟩ = some (.int .i64 p1) ∧ w4.cell? ⟨w.heap.size + 1 + 1 + 1, 1, none⟩ = some (.int .i64 q1) ∧ w4.cell? ⟨w.heap.size + 1, 0, none⟩ = some (.int .i64 0) ∧ w4.cell? ⟨w.heap.size + 1, 1, none⟩ = some (.int .i64 0) := (by and_intros <;> (with_reducible repeat (first | exact r0 | exact r1 | exact r2 | exact r3 | exact r4 | exact r5 | exact r6 | exact r7 | exact r8 | exact r9 | exact r10 | exact r11 | refine kc_drew ?_ | refine kc_drewN _ ?_ | refine kc_below hb4 ?_ | (refine kc_new ?_ ?_; (focus first | rfl | (simp only [World.size_alloc, World.size_setCell, World.size_drew, size_drewN]; done)); (focus first | rfl | (simp; done))) | (refine kc_set0 ?_ ?_; (focus first | rfl | (simp; done))) | exact ct_of (by assumption) | refine ct_drew ?_ | refine ct_drewN _ ?_ | refine ct_below hb4 ?_ | (refine ct_new ?_ ?_; (focus first | rfl | (simp only [World.size_alloc, World.size_setCell, World.size_drew, size_drewN]; done)); (focus first | rfl | (simp; done))) | refine ct_set _ _ ?_ | refine ct_alloc _ ?_ | (refine kc_set ?_ ?_; (focus first | (intro hx; injection hx; omega) | (simp; done))) | refine kc_alloc _ ?_))); have ⟨r6, r7, r8, r9, r10, r11⟩ : w4.frozen? ⟨w.heap.size + 1, 0, none⟩ = false ∧ w4.frozen? ⟨w.heap.size + 1, 1, none⟩ = false ∧ w4.frozen? ⟨w.heap.size + 1 + 1, 0, none⟩ = false ∧ w4.frozen? ⟨w.heap.size + 1 + 1, 1, none⟩ = false ∧ w4.frozen? ⟨w.heap.size + 1 + 1 + 1, 0, none⟩ = false ∧ w4.frozen? ⟨w.heap.size + 1 + 1 + 1, 1, none⟩ = false := (by and_intros <;> (with_reducible repeat (first | exact r0 | exact r1 | exact r2 | exact r3 | exact r4 | exact r5 | exact r6 | exact r7 | exact r8 | exact r9 | exact r10 | exact r11 | refine kf_drew ?_ | refine kf_drewN _ ?_ | (refine kf_new ?_ _; (focus first | rfl | (simp only [World.size_alloc, World.size_setCell, World.size_drew, size_drewN]; done))) | refine kf_set _ _ ?_ | (refine kf_below hb4 ?_ ?_; (focus simp only [World.size_alloc, World.size_setCell, World.size_drew, size_drewN]; omega)) | (refine kf_alloc _ ?_ ?_; (focus first | (simp only [World.size_alloc, World.size_setCell, World.size_drew, size_drewN]; omega) | (dsimp only; omega)))))); have hBx : Below w.heap.size w w4 := (by (with_reducible repeat (first | exact hBw | exact Below.refl _ _ | refine bl_alloc ?_ _ | refine bl_drew ?_ | refine bl_drewN ?_ _ | (refine bl_set ?_ ?_ _; (focus dsimp only; omega)) | refine bl_call ?_ hb4))); have g4 : w.heap.size + 1 + 1 + 1 < w4.heap.size := (by omega))))
      all_goals have cO : (w4.alloc (.cells #[.int .i64 P2, .int .i64 Q2] 23)).cell? ⟨w4.heap.size, 1, none⟩ = some (.int .i64 Q2) := kc_new rfl rfl
      all_goals refine wp_region_grown (by kernel_rfl) (by kernel_rfl) ?_
      all_goals (refine Calm.next 0 ?_ rfl (by kernel_rfl) (by kernel_rfl) (by rfl) (fun K hK w1 hS => ?_) ⟨_, Below.refl _ _⟩ ?_; rotate_left; (focus (go_simp; exact hK.out _ hS)); (try simp only [Act.put, List.setIfInBounds_toArray, List.set_cons_zero, List.set_cons_succ]))
      all_goals (refine Calm.next 1 ?_ rfl (by kernel_rfl) (by kernel_rfl) (by rfl) (fun K hK w1 hS => ?_) ⟨_, Below.refl _ _⟩ ?_; rotate_left; (focus (go_simp; go_at_call 53; ((with_reducible refine ((HMg _).out).mono ?_); rintro e w5 ⟨rfl, hk⟩; dsimp only; refine hK.out _ ?_; first | exact hS.trans (hk.below.mono hS.size) | (rw [← hk]; exact hS)))); (try simp only [Act.put, List.setIfInBounds_toArray, List.set_cons_zero, List.set_cons_succ]))
      all_goals (refine Calm.next 2 ?_ rfl (by kernel_rfl) (by kernel_rfl) (by rfl) (fun K hK w1 hS => ?_) ⟨_, Below.refl _ _⟩ ?_; rotate_left; (focus (go_simp; exact hK.out _ hS)); (try simp only [Act.put, List.setIfInBounds_toArray, List.set_cons_zero, List.set_cons_succ]))
      all_goals (refine Calm.next 3 ?_ rfl (by kernel_rfl) (by kernel_rfl) (by rfl) (fun K hK w1 hS => ?_) ⟨_, Below.refl _ _⟩ ?_; rotate_left; (focus (have c1 := kc_below hS (kc_alloc _ r3); go_simp; exact hK.out _ hS)); (try simp only [Act.put, List.setIfInBounds_toArray, List.set_cons_zero, List.set_cons_succ]))
      all_goals (refine Calm.next 4 ?_ rfl (by kernel_rfl) (by kernel_rfl) (by rfl) (fun K hK w1 hS => ?_) ⟨_, Below.refl _ _⟩ ?_; rotate_left; (focus (go_simp; go_at_call 53; ((with_reducible refine ((HMq _).out).mono ?_); rintro e w5 ⟨rfl, hk⟩; dsimp only; refine hK.out _ ?_; first | exact hS.trans (hk.below.mono hS.size) | (rw [← hk]; exact hS)))); (try simp only [Act.put, List.setIfInBounds_toArray, List.set_cons_zero, List.set_cons_succ]))
      all_goals (refine Calm.next 5 ?_ rfl (by kernel_rfl) (by kernel_rfl) (by rfl) (fun K hK w1 hS => ?_) ⟨_, Below.refl _ _⟩ ?_; rotate_left; (focus (go_simp; go_at_call 95; ((with_reducible refine ((HP1 _).out).mono ?_); rintro e w5 ⟨rfl, hk⟩; dsimp only; refine hK.out _ ?_; first | exact hS.trans (hk.below.mono hS.size) | (rw [← hk]; exact hS)))); (try simp only [Act.put, List.setIfInBounds_toArray, List.set_cons_zero, List.set_cons_succ]))
      all_goals (refine Calm.next 6 ?_ rfl (by kernel_rfl) (by kernel_rfl) (by rfl) (fun K hK w1 hS => ?_) ⟨_, Below.refl _ _⟩ ?_; rotate_left; (focus (go_simp; exact hK.out _ hS)); (try simp only [Act.put, List.setIfInBounds_toArray, List.set_cons_zero, List.set_cons_succ]))
      all_goals (refine Calm.next 7 ?_ rfl (by kernel_rfl) (by kernel_rfl) (by rfl) (fun K hK w1 hS => ?_) ⟨_, Below.refl _ _⟩ ?_; rotate_left; (focus (go_simp; go_at_call 53; ((with_reducible refine ((HMf _).out).mono ?_); rintro e w5 ⟨rfl, hk⟩; dsimp only; refine hK.out _ ?_; first | exact hS.trans (hk.below.mono hS.size) | (rw [← hk]; exact hS)))); (try simp only [Act.put, List.setIfInBounds_toArray, List.set_cons_zero, List.set_cons_succ]))
      all_goals (refine Calm.next 8 ?_ rfl (by kernel_rfl) (by kernel_rfl) (by rfl) (fun K hK w1 hS => ?_) ⟨_, Below.refl _ _⟩ ?_; rotate_left; (focus (go_simp; exact hK.out _ hS)); (try simp only [Act.put, List.setIfInBounds_toArray, List.set_cons_zero, List.set_cons_succ]))
      all_goals (refine Calm.next 9 ?_ rfl (by kernel_rfl) (by kernel_rfl) (by rfl) (fun K hK w1 hS => ?_) ⟨_, Below.refl _ _⟩ ?_; rotate_left; (focus (have c1 := kc_below hS cO; go_simp; exact hK.out _ hS)); (try simp only [Act.put, List.setIfInBounds_toArray, List.set_cons_zero, List.set_cons_succ]))
      all_goals (refine Calm.next 10 ?_ rfl (by kernel_rfl) (by kernel_rfl) (by rfl) (fun K hK w1 hS => ?_) ⟨_, Below.refl _ _⟩ ?_; rotate_left; (focus (go_simp; go_at_call 53; ((with_reducible refine ((HMQ _).out).mono ?_); rintro e w5 ⟨rfl, hk⟩; dsimp only; refine hK.out _ ?_; first | exact hS.trans (hk.below.mono hS.size) | (rw [← hk]; exact hS)))); (try simp only [Act.put, List.setIfInBounds_toArray, List.set_cons_zero, List.set_cons_succ]))
      all_goals (refine Calm.next 11 ?_ rfl (by kernel_rfl) (by kernel_rfl) (by rfl) (fun K hK w1 hS => ?_) ⟨_, Below.refl _ _⟩ ?_; rotate_left; (focus (go_simp; go_at_call 95; ((with_reducible refine ((HP2 _).out).mono ?_); rintro e w5 ⟨rfl, hk⟩; dsimp only; refine hK.out _ ?_; first | exact hS.trans (hk.below.mono hS.size) | (rw [← hk]; exact hS)))); (try simp only [Act.put, List.setIfInBounds_toArray, List.set_cons_zero, List.set_cons_succ]))
      all_goals (refine Calm.next 12 ?_ rfl (by kernel_rfl) (by kernel_rfl) (by rfl) (fun K hK w1 hS => ?_) ⟨_, Below.refl _ _⟩ ?_; rotate_left; (focus (go_simp; go_at_call 88; ((with_reducible refine ((HC _).out).mono ?_); rintro e w5 ⟨rfl, hk⟩; dsimp only; refine hK.out _ ?_; first | exact hS.trans (hk.below.mono hS.size) | (rw [← hk]; exact hS)))); (try simp only [Act.put, List.setIfInBounds_toArray, List.set_cons_zero, List.set_cons_succ]))
      all_goals (refine Calm.next 13 ?_ rfl (by kernel_rfl) (by kernel_rfl) (by rfl) (fun K hK w1 hS => ?_) ⟨_, Below.refl _ _⟩ ?_; rotate_left; (focus (go_simp; exact hK.out _ hS)); (try simp only [Act.put, List.setIfInBounds_toArray, List.set_cons_zero, List.set_cons_succ]))
      all_goals refine Calm.done (by kernel_rfl) (fun wz hz => ?_)
      all_goals (have ⟨s0, s1, s2, s3, s4, s5⟩ : wz.cell? ⟨w.heap.size + 1 + 1 + 1, 0, none⟩ = some (.int .i64 p1) ∧ wz.cell? ⟨w.heap.size + 1 + 1 + 1, 1, none⟩ = some (.int .i64 q1) ∧ wz.cell? ⟨w4.heap.size, 0, none⟩ = some (.int .i64 P2) ∧ wz.cell? ⟨w4.heap.size, 1, none⟩ = some (.int .i64 Q2) ∧ wz.cell? ⟨w.heap.size + 1, 0, none⟩ = some (.int .i64 0) ∧ wz.cell? ⟨w.heap.size + 1, 1, none⟩ = some (.int .i64 0) := (by and_intros <;> (with_reducible repeat (first | exact r0 | exact r1 | exact r2 | exact r3 | exact r4 | exact r5 | exact r6 | exact r7 | exact r8 | exact r9 | exact r10 | exact r11 | refine kc_drew ?_ | refine kc_drewN _ ?_ | refine kc_below hz ?_ | (refine kc_new ?_ ?_; (focus first | rfl | (simp only [World.size_alloc, World.size_setCell, World.size_drew, size_drewN]; done)); (focus first | rfl | (simp; done))) | (refine kc_set0 ?_ ?_; (focus first | rfl | (simp; done))) | exact ct_of (by assumption) | refine ct_drew ?_ | refine ct_drewN _ ?_ | refine ct_below hz ?_ | (refine ct_new ?_ ?_; (focus first | rfl | (simp only [World.size_alloc, World.size_setCell, World.size_drew, size_drewN]; done)); (focus first | rfl | (simp; done))) | refine ct_set _ _ ?_ | refine ct_alloc _ ?_ | (refine kc_set ?_ ?_; (focus first | (intro hx; injection hx; omega) | (simp; done))) | refine kc_alloc _ ?_))); have ⟨s6, s7⟩ : wz.frozen? ⟨w.heap.size + 1, 0, none⟩ = false ∧ wz.frozen? ⟨w.heap.size + 1, 1, none⟩ = false := (by and_intros <;> (with_reducible repeat (first | exact r0 | exact r1 | exact r2 | exact r3 | exact r4 | exact r5 | exact r6 | exact r7 | exact r8 | exact r9 | exact r10 | exact r11 | refine kf_drew ?_ | refine kf_drewN _ ?_ | (refine kf_new ?_ _; (focus first | rfl | (simp only [World.size_alloc, World.size_setCell, World.size_drew, size_drewN]; done))) | refine kf_set _ _ ?_ | (refine kf_below hz ?_ ?_; (focus simp only [World.size_alloc, World.size_setCell, World.size_drew, size_drewN]; omega)) | (refine kf_alloc _ ?_ ?_; (focus first | (simp only [World.size_alloc, World.size_setCell, World.size_drew, size_drewN]; omega) | (dsimp only; omega)))))); have hBz : Below w.heap.size w wz := (by (with_reducible repeat (first | exact hBx | exact Below.refl _ _ | refine bl_alloc ?_ _ | refine bl_drew ?_ | refine bl_drewN ?_ _ | (refine bl_set ?_ ?_ _; (focus dsimp only; omega)) | refine bl_call ?_ hz))); have hzz := hz.size; (try simp only [World.size_alloc, World.size_setCell, World.size_drew, size_drewN] at hzz); have gz : w.heap.size + 1 < wz.heap.size := (by omega))
      all_goals
        by_cases hfar : far < 0
        · have hlt := HFar.out.1 hfar
          go_wp2_with fail
          exact bodyPost_ret (v := .agg #[.int .i64 P2, .int .i64 Q2]) (by simp [results, Try.results70, go_sem, s4, s5, gz, Nat.ne_of_lt gz]) rfl ⟨P2, Q2, rfl, HD.out.1 hlt, by (with_reducible repeat (first | exact hBz | exact Below.refl _ _ | refine bl_alloc ?_ _ | refine bl_drew ?_ | refine bl_drewN ?_ _ | (refine bl_set ?_ ?_ _; (focus dsimp only; omega))))⟩
        · have hge : ¬ g * q1 < f1 * Q2 := fun h => hfar (HFar.out.2 h)
          have HGE := Lib.hid (HD.out.2 (by omega))
          clear hge
          go_wp2_with fail
          exact bodyPost_ret (v := .agg #[.int .i64 p1, .int .i64 q1]) (by simp [results, Try.results70, go_sem, s4, s5, gz, Nat.ne_of_lt gz]) rfl ⟨p1, q1, rfl, HGE, by (with_reducible repeat (first | exact hBz | exact Below.refl _ _ | refine bl_alloc ?_ _ | refine bl_drew ?_ | refine bl_drewN ?_ _ | (refine bl_set ?_ ?_ _; (focus dsimp only; omega))))⟩
end Go.Proofs.Ytoenimkgagndnaa
