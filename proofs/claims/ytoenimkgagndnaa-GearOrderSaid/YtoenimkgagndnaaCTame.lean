/- tame, of the statements: a small fraction. -/
import Derived.Test.YtoenimkgagndnaaCAddO
namespace Go.Proofs.Ytoenimkgagndnaa
set_option linter.unusedVariables false
set_option linter.unusedSimpArgs false
open Go.RowKit Go.Lib

theorem red_good (s : Bool) {a b : Nat} (hb : 1 ≤ b) (ha : a ≤ 4611686018427387904) (hb' : b ≤ 4611686018427387904) :
    ∃ N D : Int, redV s a b = .tuple #[.agg #[.int .i64 N, .int .i64 D], .int .i64 0] ∧ okF N D ∧ N.natAbs ≤ a ∧ D ≤ b := by
  have hg : 0 < Nat.gcd a b := Nat.gcd_pos_of_pos_right a hb
  have h1 := Nat.div_le_self a (Nat.gcd a b)
  have h2 := Nat.div_le_self b (Nat.gcd a b)
  have h3 : 1 ≤ b / Nat.gcd a b := Nat.div_pos (Nat.gcd_le_right a hb) hg
  have hc : Nat.gcd (a / Nat.gcd a b) (b / Nat.gcd a b) = 1 := Nat.coprime_div_gcd_div_gcd hg
  unfold redV
  rw [if_neg (by omega)]
  generalize a / Nat.gcd a b = p at *
  generalize b / Nat.gcd a b = q at *
  refine ⟨_, _, rfl, ⟨by omega, by omega, ?_, ?_, ?_⟩, ?_, by omega⟩
  · cases s
    · simp only [Bool.false_eq_true, if_false]; omega
    · simp only [if_true]; omega
  · cases s
    · simp only [Bool.false_eq_true, if_false]; omega
    · simp only [if_true]; omega
  · cases s
    · simp only [Bool.false_eq_true, if_false]; exact hc
    · simp only [if_true]; rw [Int.neg_gcd]; exact hc
  · cases s
    · simp only [Bool.false_eq_true, if_false]; omega
    · simp only [if_true]; omega

set_option maxHeartbeats 2000000 in
set_option maxRecDepth 100000 in
theorem tame_walk (n d most M1 a b c e D0 N D : Int) (w : World) (z1 : ¬ M1 = 0) (z2 : ¬ most = 0)
    (w1 : IntKind.i64.wrap (most + 1) = M1) (t1 : n.tmod M1 = a) (w2 : IntKind.i64.wrap a = a) (t2 : d.tmod most = b) (w3 : IntKind.i64.wrap b = b) (w4 : IntKind.i64.wrap (b + most) = c) (t3 : c.tmod most = e) (w5 : IntKind.i64.wrap e = e) (w6 : IntKind.i64.wrap (e + 1) = D0)
    (HM : ∀ W, Hid (Calls Try.prog 18 #[.int .i64 a, .int .i64 D0] W fun v w' => v = .returned (.tuple #[.agg #[.int .i64 N, .int .i64 D], .int .i64 0]) ∧ Below W.heap.size W w')) :
    Calls Try.prog 40 #[.agg #[.int .i64 n, .int .i64 d], .int .i64 most] w fun v w' => v = .returned (.agg #[.int .i64 N, .int .i64 D]) ∧ Below w.heap.size w w' := by
  go_enter Try.func40, Try.ntmps40
  go_wp2_with fail
  go_region_held3 (fun w' => w'.cell? ⟨w.heap.size, 0, none⟩ = some (.int .i64 n) ∧ w'.cell? ⟨w.heap.size, 1, none⟩ = some (.int .i64 d)) (((try dsimp only); (repeat' apply And.intro)) <;> (with_reducible repeat (first | exact r0 | exact r1 | refine kc_drew ?_ | refine kc_drewN _ ?_ | refine kc_below hb2 ?_ | (refine kc_new ?_ ?_; (focus first | rfl | (simp only [World.size_alloc, World.size_setCell, World.size_drew, size_drewN]; done)); (focus first | rfl | (simp; done))) | (refine kc_set0 ?_ ?_; (focus first | rfl | (simp; done))) | exact ct_of (by assumption) | refine ct_drew ?_ | refine ct_drewN _ ?_ | refine ct_below hb2 ?_ | (refine ct_new ?_ ?_; (focus first | rfl | (simp only [World.size_alloc, World.size_setCell, World.size_drew, size_drewN]; done)); (focus first | rfl | (simp; done))) | refine ct_set _ _ ?_ | refine ct_alloc _ ?_ | (refine kc_set ?_ ?_; (focus first | (intro hx; injection hx; omega) | (simp; done))) | refine kc_alloc _ ?_))) (first | (go_at_call 18; ((with_reducible refine (HM _).out.mono ?_); rintro v w2 ⟨rfl, hb2⟩; have ⟨r0, r1, r2, r3⟩ : w2.cell? ⟨w.heap.size, 0, none⟩ = some (.int .i64 n) ∧ w2.cell? ⟨w.heap.size, 1, none⟩ = some (.int .i64 d) ∧ w2.cell? ⟨w.heap.size + 1, 0, none⟩ = some (.int .i64 0) ∧ w2.cell? ⟨w.heap.size + 1, 1, none⟩ = some (.int .i64 0) := (by and_intros <;> (with_reducible repeat (first | exact r0 | exact r1 | exact r2 | exact r3 | exact r4 | exact r5 | refine kc_drew ?_ | refine kc_drewN _ ?_ | refine kc_below hb2 ?_ | (refine kc_new ?_ ?_; (focus first | rfl | (simp only [World.size_alloc, World.size_setCell, World.size_drew, size_drewN]; done)); (focus first | rfl | (simp; done))) | (refine kc_set0 ?_ ?_; (focus first | rfl | (simp; done))) | exact ct_of (by assumption) | refine ct_drew ?_ | refine ct_drewN _ ?_ | refine ct_below hb2 ?_ | (refine ct_new ?_ ?_; (focus first | rfl | (simp only [World.size_alloc, World.size_setCell, World.size_drew, size_drewN]; done)); (focus first | rfl | (simp; done))) | refine ct_set _ _ ?_ | refine ct_alloc _ ?_ | (refine kc_set ?_ ?_; (focus first | (intro hx; injection hx; omega) | (simp; done))) | refine kc_alloc _ ?_))); have ⟨r4, r5⟩ : w2.frozen? ⟨w.heap.size + 1, 0, none⟩ = false ∧ w2.frozen? ⟨w.heap.size + 1, 1, none⟩ = false := (by and_intros <;> (with_reducible repeat (first | exact r0 | exact r1 | exact r2 | exact r3 | exact r4 | exact r5 | refine kf_drew ?_ | refine kf_drewN _ ?_ | (refine kf_new ?_ _; (focus first | rfl | (simp only [World.size_alloc, World.size_setCell, World.size_drew, size_drewN]; done))) | refine kf_set _ _ ?_ | (refine kf_below hb2 ?_ ?_; (focus simp only [World.size_alloc, World.size_setCell, World.size_drew, size_drewN]; omega)) | (refine kf_alloc _ ?_ ?_; (focus first | (simp only [World.size_alloc, World.size_setCell, World.size_drew, size_drewN]; omega) | (dsimp only; omega)))))); have hB : Below w.heap.size w w2 := (by (with_reducible repeat (first | exact Below.refl _ _ | refine bl_alloc ?_ _ | refine bl_drew ?_ | refine bl_drewN ?_ _ | (refine bl_set ?_ ?_ _; (focus dsimp only; omega)) | refine bl_call ?_ hb2))); have g2 : w.heap.size + 1 < w2.heap.size := (World.block_lt_of_cell? _ _ r2); obtain ⟨hc2, hf2⟩ := bcell hb2; simp only [World.size_alloc, World.size_drew, World.size_setCell, size_drewN] at hc2 hf2; have hz2 : w.heap.size + 2 ≤ w2.heap.size := (by have := hb2.size; simp only [World.size_alloc, World.size_drew, World.size_setCell, size_drewN] at this; omega))))
  all_goals go_wp2_with fail
  all_goals exact bodyPost_ret (v := .agg #[.int .i64 N, .int .i64 D]) (by simp [results, Try.results40, go_sem, r2, r3, g2, Nat.ne_of_lt g2]) rfl ⟨rfl, by (with_reducible repeat (first | exact hB | exact Below.refl _ _ | refine bl_alloc ?_ _ | refine bl_drew ?_ | refine bl_drewN ?_ _ | (refine bl_set ?_ ?_ _; (focus dsimp only; omega))))⟩

theorem tame_any (n d most : Int) (hn : -9223372036854775808 ≤ n ∧ n ≤ 9223372036854775807) (hd : -9223372036854775808 ≤ d ∧ d ≤ 9223372036854775807) (hm : 1 ≤ most) (hm' : most ≤ 1000000) :
    ∃ N D : Int, okF N D ∧ N.natAbs ≤ most ∧ D ≤ most ∧ ∀ w, Hid (Calls Try.prog 40 #[.agg #[.int .i64 n, .int .i64 d], .int .i64 most] w fun v w' => v = .returned (.agg #[.int .i64 N, .int .i64 D]) ∧ Below w.heap.size w w') := by
  have a1 := Int.tmod_lt_of_pos n (show 0 < most + 1 by omega)
  have a2 := Int.lt_tmod_of_pos n (show 0 < most + 1 by omega)
  have b1 := Int.tmod_lt_of_pos d (show 0 < most by omega)
  have b2 := Int.lt_tmod_of_pos d (show 0 < most by omega)
  obtain ⟨a, ha⟩ : ∃ a, n.tmod (most + 1) = a := ⟨_, rfl⟩
  obtain ⟨b, hb⟩ : ∃ b, d.tmod most = b := ⟨_, rfl⟩
  rw [ha] at a1 a2
  rw [hb] at b1 b2
  have e1 := Int.tmod_lt_of_pos (b + most) (show 0 < most by omega)
  have e2 := Int.tmod_nonneg (a := b + most) most (by omega)
  obtain ⟨e, he⟩ : ∃ e, (b + most).tmod most = e := ⟨_, rfl⟩
  rw [he] at e1 e2
  obtain ⟨N, D, hr, ho, l1, l2⟩ := red_good (decide (a < 0) != decide (e + 1 < 0)) (a := a.natAbs) (b := (e + 1).natAbs) (by omega) (by omega) (by omega)
  refine ⟨N, D, ho, by omega, by omega, fun w => Lib.hid (tame_walk n d most (most + 1) a b (b + most) e (e + 1) N D w (by omega) (by omega) (IntWalk.i64_in _ (by omega)) ha (IntWalk.i64_in _ (by omega)) hb (IntWalk.i64_in _ (by omega)) (IntWalk.i64_in _ (by omega)) he (IntWalk.i64_in _ (by omega)) (IntWalk.i64_in _ (by omega)) (fun W => Lib.hid ?_))⟩
  have hk := makeR_any a (e + 1) W (by omega) (by omega) (by omega) (by omega)
  unfold mkV at hk
  rw [if_neg (by omega), hr] at hk
  exact hk
end Go.Proofs.Ytoenimkgagndnaa
