/- Texts that gearBest_holds reaches: Chk, Simp, Betw. -/
import Derived.Test.YtoenimkgagndnaaBb
import Derived.LoopN
import Derived.RegionCalls
import Derived.Deep.RegionWith
namespace Go.Proofs.Ytoenimkgagndnaa
set_option linter.unusedVariables false
set_option linter.unusedSimpArgs false
open Go.RowKit Go.Lib

/-- What checkAll returns of two fractions. -/
def ck2 (n d m e : Int) : Int := if okF n d then ckF m e else 2
theorem ck2_ok {n d m e : Int} (h : okF n d) (k : okF m e) : ck2 n d m e = 0 := by unfold ck2; rw [if_pos h, ckF_ok k]
set_option maxHeartbeats 1000000 in
theorem checkAll_any (n d m e : Int) (g : Nat) (w : World) (h0 : w.cell? ⟨g, 0, none⟩ = some (.int .i64 n)) (h1 : w.cell? ⟨g, 1, none⟩ = some (.int .i64 d)) (h2 : w.cell? ⟨g, 2, none⟩ = some (.int .i64 m)) (h3 : w.cell? ⟨g, 3, none⟩ = some (.int .i64 e))
    (hn : -9223372036854775808 ≤ n) (hn' : n ≤ 9223372036854775807) (hd : -9223372036854775808 ≤ d) (hd' : d ≤ 9223372036854775807) (hm : -9223372036854775808 ≤ m) (hm' : m ≤ 9223372036854775807) (he : -9223372036854775808 ≤ e) (he' : e ≤ 9223372036854775807) :
    Calls Try.prog 61 #[.slice (some ⟨g, 0, none⟩) 2 2] w fun v w' => v = .returned (.int .i64 (ck2 n d m e)) ∧ Gro w w' := by
  have hg := World.block_lt_of_cell? _ _ h0
  simp only at hg
  by_cases h : okF n d
  · have c1 := ckF_ok h
    have C2 := Lib.hid (show ckF m e = ck2 n d m e by unfold ck2; rw [if_pos h])
    by_cases k : okF m e
    · have c2 := ckF_ok k
      go_enter Try.func61, Try.ntmps61
      go_wp2_with fail
      refine wp_loop_rounds 4 ?_
      rw [rounds_succ]
      go_wp2_with (go_at_call 20; refine (check_any n d _ hn hn' hd hd').mono ?_; rintro v w1 ⟨rfl, hk1⟩; have hb1 := hk1.below; have k2 : w1.cell? ⟨g, 2, none⟩ = some (.int .i64 m) := (by (with_reducible repeat (first | exact h2 | exact h3 | refine kc_drew ?_ | refine kc_drewN _ ?_ | refine kc_below hb1 ?_ | (refine kc_new ?_ ?_; (· first | rfl | simp only [sZ]); (· first | rfl | simp)) | (refine kc_set0 ?_ ?_; (· first | rfl | simp)) | exact ct_of (by assumption) | refine ct_drew ?_ | refine ct_drewN _ ?_ | refine ct_below hb1 ?_ | (refine ct_new ?_ ?_; (· first | rfl | simp only [sZ]); (· first | rfl | simp)) | refine ct_set _ _ ?_ | refine ct_alloc _ ?_ | (refine kc_set ?_ ?_; (focus first | (intro hx; injection hx; omega) | (simp; done))) | refine kc_alloc _ ?_))); have k3 : w1.cell? ⟨g, 3, none⟩ = some (.int .i64 e) := (by (with_reducible repeat (first | exact h2 | exact h3 | refine kc_drew ?_ | refine kc_drewN _ ?_ | refine kc_below hb1 ?_ | (refine kc_new ?_ ?_; (· first | rfl | simp only [sZ]); (· first | rfl | simp)) | (refine kc_set0 ?_ ?_; (· first | rfl | simp)) | exact ct_of (by assumption) | refine ct_drew ?_ | refine ct_drewN _ ?_ | refine ct_below hb1 ?_ | (refine ct_new ?_ ?_; (· first | rfl | simp only [sZ]); (· first | rfl | simp)) | refine ct_set _ _ ?_ | refine ct_alloc _ ?_ | (refine kc_set ?_ ?_; (focus first | (intro hx; injection hx; omega) | (simp; done))) | refine kc_alloc _ ?_))))
      rw [rounds_succ]
      go_wp2_with (go_at_call 20; refine (check_any m e _ hm hm' he he').mono ?_; rintro v w2 ⟨rfl, hk2⟩; have hb2 := hk2.below)
      rw [rounds_succ]
      go_wp2_with fail
      go_ret
      exact ⟨ret_i64 (by rw [← C2.out, c2]), by (repeat (first | with_reducible rfl | with_reducible exact Below.refl _ _ | with_reducible exact gro_refl _ | with_reducible refine kc_drew ?_ | with_reducible refine kc_drewN _ ?_ | with_reducible refine kf_drew ?_ | with_reducible refine kf_drewN _ ?_ | with_reducible refine kc_below hb1 ?_ | with_reducible refine kc_below hb2 ?_ | ((with_reducible refine kc_new ?_ ?_); (focus (first | with_reducible rfl | (simp only [sZ]; done))); (focus (first | rfl | (simp; done)))) | ((with_reducible refine kc_set0 ?_ ?_); (focus (first | rfl | (simp; done)))) | with_reducible refine ct_drew ?_ | with_reducible refine ct_drewN _ ?_ | with_reducible refine ct_below hb1 ?_ | with_reducible refine ct_below hb2 ?_ | ((with_reducible refine ct_new ?_ ?_); (focus (first | with_reducible rfl | (simp only [sZ]; done))); (focus (first | rfl | (simp; done)))) | with_reducible refine ct_set _ _ ?_ | with_reducible refine ct_alloc _ ?_ | ((with_reducible refine kc_set ?_ ?_); (focus (first | (intro hx; injection hx; omega) | (simp; done)))) | with_reducible refine kc_alloc _ ?_ | ((with_reducible refine kf_new ?_ _); (focus (first | with_reducible rfl | (simp only [sZ]; done)))) | with_reducible refine kf_set _ _ ?_ | ((with_reducible refine kf_below hb1 ?_ ?_); (focus (simp only [sZ]; omega))) | ((with_reducible refine kf_below hb2 ?_ ?_); (focus (simp only [sZ]; omega))) | ((with_reducible refine kf_alloc _ ?_ ?_); (focus (first | (simp only [sZ]; omega) | (dsimp only; omega)))) | with_reducible refine bl_alloc ?_ _ | with_reducible refine bl_drew ?_ | with_reducible refine bl_drewN ?_ _ | ((with_reducible refine bl_set ?_ ?_ _); (focus (dsimp only; omega))) | with_reducible refine bl_call ?_ hb1 | with_reducible refine bl_call ?_ hb2 | with_reducible refine gro_alloc ?_ _ | with_reducible refine gro_drew ?_ | with_reducible refine gro_drewN ?_ _ | ((with_reducible refine gro_set ?_ ?_ _); (focus (first | omega | (dsimp only; omega)))) | with_reducible refine gro_call ?_ hk1 | with_reducible refine gro_call ?_ hk2))⟩
    · have c2 := ckF_bad k
      go_enter Try.func61, Try.ntmps61
      go_wp2_with fail
      refine wp_loop_rounds 4 ?_
      rw [rounds_succ]
      go_wp2_with (go_at_call 20; refine (check_any n d _ hn hn' hd hd').mono ?_; rintro v w1 ⟨rfl, hk1⟩; have hb1 := hk1.below; have k2 : w1.cell? ⟨g, 2, none⟩ = some (.int .i64 m) := (by (with_reducible repeat (first | exact h2 | exact h3 | refine kc_drew ?_ | refine kc_drewN _ ?_ | refine kc_below hb1 ?_ | (refine kc_new ?_ ?_; (· first | rfl | simp only [sZ]); (· first | rfl | simp)) | (refine kc_set0 ?_ ?_; (· first | rfl | simp)) | exact ct_of (by assumption) | refine ct_drew ?_ | refine ct_drewN _ ?_ | refine ct_below hb1 ?_ | (refine ct_new ?_ ?_; (· first | rfl | simp only [sZ]); (· first | rfl | simp)) | refine ct_set _ _ ?_ | refine ct_alloc _ ?_ | (refine kc_set ?_ ?_; (focus first | (intro hx; injection hx; omega) | (simp; done))) | refine kc_alloc _ ?_))); have k3 : w1.cell? ⟨g, 3, none⟩ = some (.int .i64 e) := (by (with_reducible repeat (first | exact h2 | exact h3 | refine kc_drew ?_ | refine kc_drewN _ ?_ | refine kc_below hb1 ?_ | (refine kc_new ?_ ?_; (· first | rfl | simp only [sZ]); (· first | rfl | simp)) | (refine kc_set0 ?_ ?_; (· first | rfl | simp)) | exact ct_of (by assumption) | refine ct_drew ?_ | refine ct_drewN _ ?_ | refine ct_below hb1 ?_ | (refine ct_new ?_ ?_; (· first | rfl | simp only [sZ]); (· first | rfl | simp)) | refine ct_set _ _ ?_ | refine ct_alloc _ ?_ | (refine kc_set ?_ ?_; (focus first | (intro hx; injection hx; omega) | (simp; done))) | refine kc_alloc _ ?_))))
      rw [rounds_succ]
      go_wp2_with (go_at_call 20; refine (check_any m e _ hm hm' he he').mono ?_; rintro v w2 ⟨rfl, hk2⟩; have hb2 := hk2.below)
      go_ret
      exact ⟨ret_i64 (by rw [← C2.out, c2]), by (repeat (first | with_reducible rfl | with_reducible exact Below.refl _ _ | with_reducible exact gro_refl _ | with_reducible refine kc_drew ?_ | with_reducible refine kc_drewN _ ?_ | with_reducible refine kf_drew ?_ | with_reducible refine kf_drewN _ ?_ | with_reducible refine kc_below hb1 ?_ | with_reducible refine kc_below hb2 ?_ | ((with_reducible refine kc_new ?_ ?_); (focus (first | with_reducible rfl | (simp only [sZ]; done))); (focus (first | rfl | (simp; done)))) | ((with_reducible refine kc_set0 ?_ ?_); (focus (first | rfl | (simp; done)))) | with_reducible refine ct_drew ?_ | with_reducible refine ct_drewN _ ?_ | with_reducible refine ct_below hb1 ?_ | with_reducible refine ct_below hb2 ?_ | ((with_reducible refine ct_new ?_ ?_); (focus (first | with_reducible rfl | (simp only [sZ]; done))); (focus (first | rfl | (simp; done)))) | with_reducible refine ct_set _ _ ?_ | with_reducible refine ct_alloc _ ?_ | ((with_reducible refine kc_set ?_ ?_); (focus (first | (intro hx; injection hx; omega) | (simp; done)))) | with_reducible refine kc_alloc _ ?_ | ((with_reducible refine kf_new ?_ _); (focus (first | with_reducible rfl | (simp only [sZ]; done)))) | with_reducible refine kf_set _ _ ?_ | ((with_reducible refine kf_below hb1 ?_ ?_); (focus (simp only [sZ]; omega))) | ((with_reducible refine kf_below hb2 ?_ ?_); (focus (simp only [sZ]; omega))) | ((with_reducible refine kf_alloc _ ?_ ?_); (focus (first | (simp only [sZ]; omega) | (dsimp only; omega)))) | with_reducible refine bl_alloc ?_ _ | with_reducible refine bl_drew ?_ | with_reducible refine bl_drewN ?_ _ | ((with_reducible refine bl_set ?_ ?_ _); (focus (dsimp only; omega))) | with_reducible refine bl_call ?_ hb1 | with_reducible refine bl_call ?_ hb2 | with_reducible refine gro_alloc ?_ _ | with_reducible refine gro_drew ?_ | with_reducible refine gro_drewN ?_ _ | ((with_reducible refine gro_set ?_ ?_ _); (focus (first | omega | (dsimp only; omega)))) | with_reducible refine gro_call ?_ hk1 | with_reducible refine gro_call ?_ hk2))⟩
  · have c1 := ckF_bad h
    have C2 := Lib.hid (show (2 : Int) = ck2 n d m e by unfold ck2; rw [if_neg h])
    go_enter Try.func61, Try.ntmps61
    go_wp2_with fail
    refine wp_loop_rounds 4 ?_
    rw [rounds_succ]
    go_wp2_with (go_at_call 20; refine (check_any n d _ hn hn' hd hd').mono ?_; rintro v w1 ⟨rfl, hk1⟩; have hb1 := hk1.below)
    go_ret
    exact ⟨ret_i64 C2.out, by (repeat (first | with_reducible rfl | with_reducible exact Below.refl _ _ | with_reducible exact gro_refl _ | with_reducible refine kc_drew ?_ | with_reducible refine kc_drewN _ ?_ | with_reducible refine kf_drew ?_ | with_reducible refine kf_drewN _ ?_ | with_reducible refine kc_below hb1 ?_ | ((with_reducible refine kc_new ?_ ?_); (focus (first | with_reducible rfl | (simp only [sZ]; done))); (focus (first | rfl | (simp; done)))) | ((with_reducible refine kc_set0 ?_ ?_); (focus (first | rfl | (simp; done)))) | with_reducible refine ct_drew ?_ | with_reducible refine ct_drewN _ ?_ | with_reducible refine ct_below hb1 ?_ | ((with_reducible refine ct_new ?_ ?_); (focus (first | with_reducible rfl | (simp only [sZ]; done))); (focus (first | rfl | (simp; done)))) | with_reducible refine ct_set _ _ ?_ | with_reducible refine ct_alloc _ ?_ | ((with_reducible refine kc_set ?_ ?_); (focus (first | (intro hx; injection hx; omega) | (simp; done)))) | with_reducible refine kc_alloc _ ?_ | ((with_reducible refine kf_new ?_ _); (focus (first | with_reducible rfl | (simp only [sZ]; done)))) | with_reducible refine kf_set _ _ ?_ | ((with_reducible refine kf_below hb1 ?_ ?_); (focus (simp only [sZ]; omega))) | ((with_reducible refine kf_alloc _ ?_ ?_); (focus (first | (simp only [sZ]; omega) | (dsimp only; omega)))) | with_reducible refine bl_alloc ?_ _ | with_reducible refine bl_drew ?_ | with_reducible refine bl_drewN ?_ _ | ((with_reducible refine bl_set ?_ ?_ _); (focus (dsimp only; omega))) | with_reducible refine bl_call ?_ hb1 | with_reducible refine gro_alloc ?_ _ | with_reducible refine gro_drew ?_ | with_reducible refine gro_drewN ?_ _ | ((with_reducible refine gro_set ?_ ?_ _); (focus (first | omega | (dsimp only; omega)))) | with_reducible refine gro_call ?_ hk1))⟩
end Go.Proofs.Ytoenimkgagndnaa
namespace Go.Proofs.Ytoenimkgagndnaa
set_option linter.unusedVariables false
set_option linter.unusedSimpArgs false
open Go.RowKit Go.Lib

/-- The simplest fraction between two that are above 0. -/
def simp2 : Nat → Int → Int → Int → Int → Int × Int
  | 0, _, _, _, _ => (1, 1)
  | k + 1, n, d, m, e => if n % d = 0 then (n / d, 1) else if n / d < m / e then (n / d + 1, 1) else
    (n / d * (simp2 k e (m % e) d (n % d)).1 + (simp2 k e (m % e) d (n % d)).2, (simp2 k e (m % e) d (n % d)).1)

/-- Both bounds are above 0 and in order. -/
structure Two (n d m e : Int) : Prop where
  n1 : 1 ≤ n
  d1 : 1 ≤ d
  m1 : 1 ≤ m
  e1 : 1 ≤ e
  le : n * e ≤ m * d

theorem two_rest {n d m e : Int} (h : Two n d m e) (hr : n % d ≠ 0) (hq : ¬ n / d < m / e) : n / d = m / e ∧ 1 ≤ n % d ∧ 1 ≤ m % e ∧ n % d < d ∧ m % e < e ∧ Two e (m % e) d (n % d) := by
  obtain ⟨n1, d1, m1, e1, hle⟩ := h
  have a1 := Int.emod_add_mul_ediv n d
  have a2 := Int.emod_add_mul_ediv m e
  have b1 := Int.emod_nonneg n (show d ≠ 0 by omega)
  have b2 := Int.emod_nonneg m (show e ≠ 0 by omega)
  have c1 := Int.emod_lt_of_pos n (show 0 < d by omega)
  have c2 := Int.emod_lt_of_pos m (show 0 < e by omega)
  generalize n / d = q at *
  generalize m / e = p at *
  generalize n % d = r at *
  generalize m % e = s at *
  have hqp : q = p := by
    rcases show p < q ∨ q ≤ p by omega with h | h
    · exfalso
      -- n ≥ q d, m ≤ p e + e - 1, q ≥ p + 1
      have h1 : d * (p + 1) ≤ d * q := Int.mul_le_mul_of_nonneg_left (by omega) (by omega)
      have h2 : (d * (p + 1) + r) * e ≤ (r + d * q) * e := Int.mul_le_mul_of_nonneg_right (by omega) (by omega)
      have h3 : n * e = (r + d * q) * e := by rw [a1]
      have h4 : m * d = (s + e * p) * d := by rw [a2]
      have h5 : (d * (p + 1) + r) * e ≤ (s + e * p) * d := by omega
      have h6 : (d * (p + 1) + r) * e = d * p * e + d * e + r * e := by grind
      have h7 : (s + e * p) * d = s * d + d * p * e := by grind
      have h8 : s * d < e * d := Int.mul_lt_mul_of_pos_right c2 (by omega)
      have h9 : 0 ≤ r * e := Int.mul_nonneg b1 (by omega)
      have h10 : e * d = d * e := Int.mul_comm _ _
      omega
    · omega
  subst hqp
  have hs : r * e ≤ s * d := by
    have h3 : n * e = (r + d * q) * e := by rw [a1]
    have h4 : m * d = (s + e * q) * d := by rw [a2]
    have h6 : (r + d * q) * e = r * e + d * q * e := by grind
    have h7 : (s + e * q) * d = s * d + d * q * e := by grind
    omega
  have hr1 : 1 ≤ r := by omega
  have hs1 : 1 ≤ s := by
    rcases show 0 < s ∨ s ≤ 0 by omega with h | h
    · omega
    · exfalso
      have : s = 0 := by omega
      subst this
      have : 1 * 1 ≤ r * e := Int.mul_le_mul hr1 e1 (by omega) (by omega)
      omega
  refine ⟨rfl, hr1, hs1, c1, c2, e1, hs1, d1, hr1, ?_⟩
  rw [Int.mul_comm e r, Int.mul_comm d s]
  exact hs

/-- It is at most as great, above and below, as both bounds. -/
theorem simp_le : ∀ (k : Nat) {n d m e : Int}, Two n d m e → d + e ≤ k → (1 ≤ (simp2 k n d m e).1 ∧ (simp2 k n d m e).1 ≤ n ∧ (simp2 k n d m e).1 ≤ m) ∧ 1 ≤ (simp2 k n d m e).2 ∧ (simp2 k n d m e).2 ≤ d ∧ (simp2 k n d m e).2 ≤ e
  | 0, n, d, m, e, h, hk => by have := h.d1; have := h.e1; omega
  | k + 1, n, d, m, e, h, hk => by
    have a1 := Int.emod_add_mul_ediv n d
    have a2 := Int.emod_add_mul_ediv m e
    have b1 := Int.emod_nonneg n (show d ≠ 0 by have := h.d1; omega)
    have b2 := Int.emod_nonneg m (show e ≠ 0 by have := h.e1; omega)
    have n1 := h.n1
    have d1 := h.d1
    have m1 := h.m1
    have e1 := h.e1
    have hq0 : 0 ≤ n / d := Int.ediv_nonneg (by omega) (by omega)
    have hp0 : 0 ≤ m / e := Int.ediv_nonneg (by omega) (by omega)
    have hqd : n / d ≤ d * (n / d) := by
      have := Int.mul_le_mul_of_nonneg_right d1 hq0
      omega
    have hpe : m / e ≤ e * (m / e) := by
      have := Int.mul_le_mul_of_nonneg_right e1 hp0
      omega
    unfold simp2
    by_cases hr : n % d = 0
    · rw [if_pos hr]
      simp only
      have hq1 : 1 ≤ n / d := by
        rcases show 0 < n / d ∨ n / d ≤ 0 by omega with h | h
        · omega
        · exfalso
          have : n / d = 0 := by omega
          rw [this] at a1
          omega
      have hqm : n / d ≤ m / e := by
        refine (Int.le_ediv_iff_mul_le (by omega)).2 ?_
        have h1 : n = d * (n / d) := by omega
        have h2 := h.le
        rw [h1] at h2
        have h3 : d * (n / d) * e = n / d * e * d := by grind
        have h4 : n / d * e * d ≤ m * d := by rw [← h3]; exact h2
        exact Int.le_of_mul_le_mul_right h4 (by omega)
      omega
    · rw [if_neg hr]
      by_cases hq : n / d < m / e
      · rw [if_pos hq]
        simp only
        have c1 := Int.emod_lt_of_pos n (show 0 < d by omega)
        have hd2 : 2 * (n / d) ≤ d * (n / d) := Int.mul_le_mul_of_nonneg_right (by omega) hq0
        omega
      · rw [if_neg hq]
        obtain ⟨hqp, r1, s1, c1, c2, h2⟩ := two_rest h hr hq
        have ih := simp_le k h2 (by omega)
        generalize simp2 k e (m % e) d (n % d) = z at *
        obtain ⟨x, y⟩ := z
        simp only at ih ⊢
        obtain ⟨⟨i1, i2, i3⟩, i4, i5, i6⟩ := ih
        have u1 : n / d * x ≤ n / d * d := Int.mul_le_mul_of_nonneg_left i3 hq0
        have u2 : m / e * x ≤ m / e * e := Int.mul_le_mul_of_nonneg_left i2 hp0
        have u3 : 0 ≤ n / d * x := Int.mul_nonneg hq0 (by omega)
        rw [← hqp] at u2 a2
        have v1 : n / d * d = d * (n / d) := Int.mul_comm _ _
        have v2 : n / d * e = e * (n / d) := Int.mul_comm _ _
        omega

set_option maxHeartbeats 2000000 in
set_option maxRecDepth 100000 in
theorem simplest_any : ∀ (k : Nat) (n d m e : Int) (w : World), Two n d m e → d + e ≤ k → n ≤ 4611686018427387904 → d ≤ 4611686018427387904 → m ≤ 4611686018427387904 → e ≤ 4611686018427387904 →
    Calls Try.prog 64 #[.agg #[.int .i64 n, .int .i64 d], .agg #[.int .i64 m, .int .i64 e]] w fun v w' => v = .returned (.agg #[.int .i64 (simp2 k n d m e).1, .int .i64 (simp2 k n d m e).2]) ∧ Gro w w'
  | 0, n, d, m, e, w, h, hk, _, _, _, _ => by have := h.d1; have := h.e1; omega
  | k + 1, n, d, m, e, w, h, hk, hn, hd, hm, he => by
    have n1 := h.n1
    have d1 := h.d1
    have m1 := h.m1
    have e1 := h.e1
    have q0 : 0 ≤ n / d := Int.ediv_nonneg (by omega) (by omega)
    have q9 : n / d ≤ n := Int.ediv_le_self _ (by omega)
    have p0 : 0 ≤ m / e := Int.ediv_nonneg (by omega) (by omega)
    have p9 : m / e ≤ m := Int.ediv_le_self _ (by omega)
    have r0 := Int.emod_nonneg n (show d ≠ 0 by omega)
    have r9 := Int.emod_lt_of_pos n (show 0 < d by omega)
    have s0 := Int.emod_nonneg m (show e ≠ 0 by omega)
    have s9 := Int.emod_lt_of_pos m (show 0 < e by omega)
    have x1 : n.tdiv d = n / d := Int.tdiv_eq_ediv_of_nonneg (by omega)
    have x2 : n.tmod d = n % d := Int.tmod_eq_emod_of_nonneg (by omega)
    have x3 : m.tdiv e = m / e := Int.tdiv_eq_ediv_of_nonneg (by omega)
    have x4 : m.tmod e = m % e := Int.tmod_eq_emod_of_nonneg (by omega)
    have y1 : IntKind.i64.wrap (n / d) = n / d := IntWalk.i64_in _ (by omega)
    have y2 : IntKind.i64.wrap (n % d) = n % d := IntWalk.i64_in _ (by omega)
    have y4 : IntKind.i64.wrap (m % e) = m % e := IntWalk.i64_in _ (by omega)
    have zd : (d == 0) = false := by simp; omega
    have ze : (e == 0) = false := by simp; omega
    have ze2 : ¬ e = 0 := by omega
    have hsz : w.heap.size < w.heap.size + 1 + 1 + 1 := by omega
    by_cases hr : n % d = 0
    · have E : simp2 (k + 1) n d m e = (n / d, 1) := by show (if _ then _ else _) = _; rw [if_pos hr]
      rw [E]
      clear E
      go_enter Try.func64, Try.ntmps64
      go_wp2_with fail
      go_quiet (fail)
      go_wp2_with fail
      exact bodyPost_ret (v := .agg #[.int .i64 (n / d), .int .i64 1]) (by simp [results, Try.results64, go_sem]) rfl ⟨rfl, by (repeat (first | with_reducible rfl | with_reducible exact Below.refl _ _ | with_reducible exact gro_refl _ | with_reducible refine kc_drew ?_ | with_reducible refine kc_drewN _ ?_ | with_reducible refine kf_drew ?_ | with_reducible refine kf_drewN _ ?_ | ((with_reducible refine kc_new ?_ ?_); (focus (first | with_reducible rfl | (simp only [sZ]; done))); (focus (first | rfl | (simp; done)))) | ((with_reducible refine kc_set0 ?_ ?_); (focus (first | rfl | (simp; done)))) | with_reducible refine ct_drew ?_ | with_reducible refine ct_drewN _ ?_ | ((with_reducible refine ct_new ?_ ?_); (focus (first | with_reducible rfl | (simp only [sZ]; done))); (focus (first | rfl | (simp; done)))) | with_reducible refine ct_set _ _ ?_ | with_reducible refine ct_alloc _ ?_ | ((with_reducible refine kc_set ?_ ?_); (focus (first | (intro hx; injection hx; omega) | (simp; done)))) | with_reducible refine kc_alloc _ ?_ | ((with_reducible refine kf_new ?_ _); (focus (first | with_reducible rfl | (simp only [sZ]; done)))) | with_reducible refine kf_set _ _ ?_ | ((with_reducible refine kf_alloc _ ?_ ?_); (focus (first | (simp only [sZ]; omega) | (dsimp only; omega)))) | with_reducible refine bl_alloc ?_ _ | with_reducible refine bl_drew ?_ | with_reducible refine bl_drewN ?_ _ | ((with_reducible refine bl_set ?_ ?_ _); (focus (dsimp only; omega))) | with_reducible refine gro_alloc ?_ _ | with_reducible refine gro_drew ?_ | with_reducible refine gro_drewN ?_ _ | ((with_reducible refine gro_set ?_ ?_ _); (focus (first | omega | (dsimp only; omega))))))⟩
    · by_cases hq : n / d < m / e
      · have E : simp2 (k + 1) n d m e = (n / d + 1, 1) := by show (if _ then _ else _) = _; rw [if_neg hr, if_pos hq]
        rw [E]
        clear E
        have hr' : 1 ≤ n % d := by omega
        go_enter Try.func64, Try.ntmps64
        go_wp2_with fail
        go_quiet (fail)
        go_wp2_with fail
        exact bodyPost_ret (v := .agg #[.int .i64 (n / d + 1), .int .i64 1]) (by simp [results, Try.results64, go_sem]) rfl ⟨rfl, by (repeat (first | with_reducible rfl | with_reducible exact Below.refl _ _ | with_reducible exact gro_refl _ | with_reducible refine kc_drew ?_ | with_reducible refine kc_drewN _ ?_ | with_reducible refine kf_drew ?_ | with_reducible refine kf_drewN _ ?_ | ((with_reducible refine kc_new ?_ ?_); (focus (first | with_reducible rfl | (simp only [sZ]; done))); (focus (first | rfl | (simp; done)))) | ((with_reducible refine kc_set0 ?_ ?_); (focus (first | rfl | (simp; done)))) | with_reducible refine ct_drew ?_ | with_reducible refine ct_drewN _ ?_ | ((with_reducible refine ct_new ?_ ?_); (focus (first | with_reducible rfl | (simp only [sZ]; done))); (focus (first | rfl | (simp; done)))) | with_reducible refine ct_set _ _ ?_ | with_reducible refine ct_alloc _ ?_ | ((with_reducible refine kc_set ?_ ?_); (focus (first | (intro hx; injection hx; omega) | (simp; done)))) | with_reducible refine kc_alloc _ ?_ | ((with_reducible refine kf_new ?_ _); (focus (first | with_reducible rfl | (simp only [sZ]; done)))) | with_reducible refine kf_set _ _ ?_ | ((with_reducible refine kf_alloc _ ?_ ?_); (focus (first | (simp only [sZ]; omega) | (dsimp only; omega)))) | with_reducible refine bl_alloc ?_ _ | with_reducible refine bl_drew ?_ | with_reducible refine bl_drewN ?_ _ | ((with_reducible refine bl_set ?_ ?_ _); (focus (dsimp only; omega))) | with_reducible refine gro_alloc ?_ _ | with_reducible refine gro_drew ?_ | with_reducible refine gro_drewN ?_ _ | ((with_reducible refine gro_set ?_ ?_ _); (focus (first | omega | (dsimp only; omega))))))⟩
      · obtain ⟨hqp, hr', hs', _, _, h2⟩ := two_rest h hr hq
        have E : simp2 (k + 1) n d m e = (n / d * (simp2 k e (m % e) d (n % d)).1 + (simp2 k e (m % e) d (n % d)).2, (simp2 k e (m % e) d (n % d)).1) := by show (if _ then _ else _) = _; rw [if_neg hr, if_neg hq]
        have L := simp_le k h2 (by omega)
        have IH := fun W => Lib.hid (simplest_any k e (m % e) d (n % d) W h2 (by omega) he (by omega) hd (by omega))
        have L2 := simp_le (k + 1) h hk
        rw [E] at L2 ⊢
        clear E h h2 hr hqp
        generalize simp2 k e (m % e) d (n % d) = z at *
        obtain ⟨x, y⟩ := z
        simp only at L L2 IH ⊢
        obtain ⟨⟨l1, l2, l3⟩, l4, l5, l6⟩ := L
        obtain ⟨⟨l7, l8, l9⟩, l10, l11, l12⟩ := L2
        have t1 : 0 ≤ n / d * x := Int.mul_nonneg q0 (by omega)
        go_enter Try.func64, Try.ntmps64
        go_wp2_with fail
        go_quiet (fail)
        go_wp2_with fail
        go_region_held3 (fun w' => (w'.cell? ⟨w.heap.size, 0, none⟩ = some (.int .i64 n) ∧ w'.cell? ⟨w.heap.size, 1, none⟩ = some (.int .i64 d)) ∧ w'.cell? ⟨w.heap.size + 1, 0, none⟩ = some (.int .i64 m) ∧ w'.cell? ⟨w.heap.size + 1, 1, none⟩ = some (.int .i64 e))
          (((try dsimp only); (repeat' apply And.intro)) <;> (repeat (first | with_reducible rfl | with_reducible exact Below.refl _ _ | with_reducible exact gro_refl _ | with_reducible refine kc_drew ?_ | with_reducible refine kc_drewN _ ?_ | with_reducible refine kf_drew ?_ | with_reducible refine kf_drewN _ ?_ | with_reducible refine kc_below hb1 ?_ | ((with_reducible refine kc_new ?_ ?_); (focus (first | with_reducible rfl | (simp only [sZ]; done))); (focus (first | rfl | (simp; done)))) | ((with_reducible refine kc_set0 ?_ ?_); (focus (first | rfl | (simp; done)))) | with_reducible refine ct_drew ?_ | with_reducible refine ct_drewN _ ?_ | with_reducible refine ct_below hb1 ?_ | ((with_reducible refine ct_new ?_ ?_); (focus (first | with_reducible rfl | (simp only [sZ]; done))); (focus (first | rfl | (simp; done)))) | with_reducible refine ct_set _ _ ?_ | with_reducible refine ct_alloc _ ?_ | ((with_reducible refine kc_set ?_ ?_); (focus (first | (intro hx; injection hx; omega) | (simp; done)))) | with_reducible refine kc_alloc _ ?_ | ((with_reducible refine kf_new ?_ _); (focus (first | with_reducible rfl | (simp only [sZ]; done)))) | with_reducible refine kf_set _ _ ?_ | ((with_reducible refine kf_below hb1 ?_ ?_); (focus (simp only [sZ]; omega))) | ((with_reducible refine kf_alloc _ ?_ ?_); (focus (first | (simp only [sZ]; omega) | (dsimp only; omega)))) | with_reducible refine bl_alloc ?_ _ | with_reducible refine bl_drew ?_ | with_reducible refine bl_drewN ?_ _ | ((with_reducible refine bl_set ?_ ?_ _); (focus (dsimp only; omega))) | with_reducible refine bl_call ?_ hb1 | with_reducible refine gro_alloc ?_ _ | with_reducible refine gro_drew ?_ | with_reducible refine gro_drewN ?_ _ | ((with_reducible refine gro_set ?_ ?_ _); (focus (first | omega | (dsimp only; omega)))) | with_reducible refine gro_call ?_ hk1)))
          (first | (go_at_call 64; refine (IH _).out.mono ?_; rintro v w1 ⟨rfl, hk1⟩; have hb1 := hk1.below; obtain ⟨hc1, hf1⟩ := bcell hb1; simp only [World.size_alloc, World.size_drew, size_drewN] at hc1 hf1; have hz1 : w.heap.size + 3 ≤ w1.heap.size := (by have := hb1.size; simp only [World.size_alloc, World.size_drew, size_drewN] at this; omega); have rr0 : w1.cell? ⟨w.heap.size + 1 + 1, 0, none⟩ = some (.int .i64 0) := (by (with_reducible repeat (first | refine kc_drew ?_ | refine kc_drewN _ ?_ | refine kc_below hb1 ?_ | (refine kc_new ?_ ?_; (· first | rfl | simp only [sZ]); (· first | rfl | simp)) | (refine kc_set0 ?_ ?_; (· first | rfl | simp)) | exact ct_of (by assumption) | refine ct_drew ?_ | refine ct_drewN _ ?_ | refine ct_below hb1 ?_ | (refine ct_new ?_ ?_; (· first | rfl | simp only [sZ]); (· first | rfl | simp)) | refine ct_set _ _ ?_ | refine ct_alloc _ ?_ | (refine kc_set ?_ ?_; (focus first | (intro hx; injection hx; omega) | (simp; done))) | refine kc_alloc _ ?_))); have rr1 : w1.cell? ⟨w.heap.size + 1 + 1, 1, none⟩ = some (.int .i64 0) := (by (with_reducible repeat (first | refine kc_drew ?_ | refine kc_drewN _ ?_ | refine kc_below hb1 ?_ | (refine kc_new ?_ ?_; (· first | rfl | simp only [sZ]); (· first | rfl | simp)) | (refine kc_set0 ?_ ?_; (· first | rfl | simp)) | exact ct_of (by assumption) | refine ct_drew ?_ | refine ct_drewN _ ?_ | refine ct_below hb1 ?_ | (refine ct_new ?_ ?_; (· first | rfl | simp only [sZ]); (· first | rfl | simp)) | refine ct_set _ _ ?_ | refine ct_alloc _ ?_ | (refine kc_set ?_ ?_; (focus first | (intro hx; injection hx; omega) | (simp; done))) | refine kc_alloc _ ?_))); have xx0 : w1.frozen? ⟨w.heap.size + 1 + 1, 0, none⟩ = false := (by (with_reducible repeat (first | refine kf_drew ?_ | refine kf_drewN _ ?_ | (refine kf_new ?_ _; (· first | rfl | simp only [sZ])) | refine kf_set _ _ ?_ | (refine kf_below hb1 ?_ ?_; (focus simp only [sZ]; omega)) | (refine kf_alloc _ ?_ ?_; (focus first | (simp only [sZ]; omega) | (dsimp only; omega)))))); have xx1 : w1.frozen? ⟨w.heap.size + 1 + 1, 1, none⟩ = false := (by (with_reducible repeat (first | refine kf_drew ?_ | refine kf_drewN _ ?_ | (refine kf_new ?_ _; (· first | rfl | simp only [sZ])) | refine kf_set _ _ ?_ | (refine kf_below hb1 ?_ ?_; (focus simp only [sZ]; omega)) | (refine kf_alloc _ ?_ ?_; (focus first | (simp only [sZ]; omega) | (dsimp only; omega)))))); have hlt : w.heap.size + 1 + 1 < w1.heap.size := (by omega)))
        all_goals go_wp2_with fail
        all_goals exact bodyPost_ret (v := .agg #[.int .i64 (n / d * x + y), .int .i64 x]) (by simp [results, Try.results64, go_sem, rr0, rr1, hlt, Nat.ne_of_lt hlt]) rfl ⟨rfl, by (repeat (first | with_reducible rfl | with_reducible exact Below.refl _ _ | with_reducible exact gro_refl _ | with_reducible refine kc_drew ?_ | with_reducible refine kc_drewN _ ?_ | with_reducible refine kf_drew ?_ | with_reducible refine kf_drewN _ ?_ | with_reducible refine kc_below hb1 ?_ | ((with_reducible refine kc_new ?_ ?_); (focus (first | with_reducible rfl | (simp only [sZ]; done))); (focus (first | rfl | (simp; done)))) | ((with_reducible refine kc_set0 ?_ ?_); (focus (first | rfl | (simp; done)))) | with_reducible refine ct_drew ?_ | with_reducible refine ct_drewN _ ?_ | with_reducible refine ct_below hb1 ?_ | ((with_reducible refine ct_new ?_ ?_); (focus (first | with_reducible rfl | (simp only [sZ]; done))); (focus (first | rfl | (simp; done)))) | with_reducible refine ct_set _ _ ?_ | with_reducible refine ct_alloc _ ?_ | ((with_reducible refine kc_set ?_ ?_); (focus (first | (intro hx; injection hx; omega) | (simp; done)))) | with_reducible refine kc_alloc _ ?_ | ((with_reducible refine kf_new ?_ _); (focus (first | with_reducible rfl | (simp only [sZ]; done)))) | with_reducible refine kf_set _ _ ?_ | ((with_reducible refine kf_below hb1 ?_ ?_); (focus (simp only [sZ]; omega))) | ((with_reducible refine kf_alloc _ ?_ ?_); (focus (first | (simp only [sZ]; omega) | (dsimp only; omega)))) | with_reducible refine bl_alloc ?_ _ | with_reducible refine bl_drew ?_ | with_reducible refine bl_drewN ?_ _ | ((with_reducible refine bl_set ?_ ?_ _); (focus (dsimp only; omega))) | with_reducible refine bl_call ?_ hb1 | with_reducible refine gro_alloc ?_ _ | with_reducible refine gro_drew ?_ | with_reducible refine gro_drewN ?_ _ | ((with_reducible refine gro_set ?_ ?_ _); (focus (first | omega | (dsimp only; omega)))) | with_reducible refine gro_call ?_ hk1))⟩
end Go.Proofs.Ytoenimkgagndnaa
namespace Go.Proofs.Ytoenimkgagndnaa
set_option linter.unusedVariables false
set_option linter.unusedSimpArgs false
open Go.RowKit Go.Lib

/-- The simplest fraction between two. -/
def btwF (n d m e : Int) : Int × Int :=
  if m < 0 then (-(simp2 (d + e).toNat (-m) e (-n) d).1, (simp2 (d + e).toNat (-m) e (-n) d).2) else if n ≤ 0 then (0, 1) else simp2 (d + e).toNat n d m e

theorem cmpF_le {n d m e : Int} (h : cmpF n d m e ≤ 0) : n * e ≤ m * d := by
  unfold cmpF at h
  have := cmpZ_cases' (n * e) (m * d)
  omega

set_option maxHeartbeats 2000000 in
set_option maxRecDepth 100000 in
theorem between_any (n d m e : Int) (w : World) (ho : okF n d) (ho' : okF m e) (hc : cmpF n d m e ≤ 0) :
    Calls Try.prog 24 #[.agg #[.int .i64 n, .int .i64 d], .agg #[.int .i64 m, .int .i64 e]] w fun v w' => v = .returned (.tuple #[.agg #[.int .i64 (btwF n d m e).1, .int .i64 (btwF n d m e).2], .int .i64 0]) ∧ Gro w w' := by
  have hle := cmpF_le hc
  have b := ho
  have b' := ho'
  unfold okF at b b'
  obtain ⟨d1, d2, n2, n3, _⟩ := b
  obtain ⟨e1, e2, m2, m3, _⟩ := b'
  have HA := fun (g : Nat) W h0 h1 h2 h3 => Lib.hid (checkAll_any n d m e g W h0 h1 h2 h3 (by omega) (by omega) (by omega) (by omega) (by omega) (by omega) (by omega) (by omega))
  rw [ck2_ok ho ho'] at HA
  have HC := fun W => Lib.hid (compare_any n d m e W (by omega) (by omega) (by omega) (by omega) (by omega) (by omega) (by omega) (by omega))
  generalize cmpF n d m e = c at *
  have cb : decide (0 < c) = false := by simp; omega
  clear ho ho'
  by_cases hm : m < 0
  · have hn : n < 0 := by
      rcases (show n < 0 ∨ 0 ≤ n by omega) with h | h
      · exact h
      · exfalso
        have h1 : 0 ≤ n * e := Int.mul_nonneg h (by omega)
        have h2 : m * d < 0 := Int.mul_neg_of_neg_of_pos hm (by omega)
        omega
    have hT : Two (-m) e (-n) d := ⟨by omega, e1, by omega, d1, by rw [Int.neg_mul, Int.neg_mul]; omega⟩
    have E : btwF n d m e = (-(simp2 (d + e).toNat (-m) e (-n) d).1, (simp2 (d + e).toNat (-m) e (-n) d).2) := by unfold btwF; rw [if_pos hm]
    have HS := fun W => Lib.hid (simplest_any (d + e).toNat (-m) e (-n) d W hT (by omega) (by omega) (by omega) (by omega) (by omega))
    have L := simp_le (d + e).toNat hT (by omega)
    rw [E]
    clear E hT hle hc
    generalize simp2 (d + e).toNat (-m) e (-n) d = z at *
    obtain ⟨x, y⟩ := z
    simp only at L HS ⊢
    obtain ⟨⟨l1, l2, l3⟩, l4, l5, l6⟩ := L
    go_enter Try.func24, Try.ntmps24
    go_wp2_with (first | (go_at_call 61; refine (HA _ _ (by (with_reducible repeat (first | refine kc_drew ?_ | refine kc_drewN _ ?_ | (refine kc_new ?_ ?_; (· first | rfl | simp only [sZ]); (· first | rfl | simp)) | (refine kc_set0 ?_ ?_; (· first | rfl | simp)) | exact ct_of (by assumption) | refine ct_drew ?_ | refine ct_drewN _ ?_ | (refine ct_new ?_ ?_; (· first | rfl | simp only [sZ]); (· first | rfl | simp)) | refine ct_set _ _ ?_ | refine ct_alloc _ ?_ | (refine kc_set ?_ ?_; (focus first | (intro hx; injection hx; omega) | (simp; done))) | refine kc_alloc _ ?_))) (by (with_reducible repeat (first | refine kc_drew ?_ | refine kc_drewN _ ?_ | (refine kc_new ?_ ?_; (· first | rfl | simp only [sZ]); (· first | rfl | simp)) | (refine kc_set0 ?_ ?_; (· first | rfl | simp)) | exact ct_of (by assumption) | refine ct_drew ?_ | refine ct_drewN _ ?_ | (refine ct_new ?_ ?_; (· first | rfl | simp only [sZ]); (· first | rfl | simp)) | refine ct_set _ _ ?_ | refine ct_alloc _ ?_ | (refine kc_set ?_ ?_; (focus first | (intro hx; injection hx; omega) | (simp; done))) | refine kc_alloc _ ?_))) (by (with_reducible repeat (first | refine kc_drew ?_ | refine kc_drewN _ ?_ | (refine kc_new ?_ ?_; (· first | rfl | simp only [sZ]); (· first | rfl | simp)) | (refine kc_set0 ?_ ?_; (· first | rfl | simp)) | exact ct_of (by assumption) | refine ct_drew ?_ | refine ct_drewN _ ?_ | (refine ct_new ?_ ?_; (· first | rfl | simp only [sZ]); (· first | rfl | simp)) | refine ct_set _ _ ?_ | refine ct_alloc _ ?_ | (refine kc_set ?_ ?_; (focus first | (intro hx; injection hx; omega) | (simp; done))) | refine kc_alloc _ ?_))) (by (with_reducible repeat (first | refine kc_drew ?_ | refine kc_drewN _ ?_ | (refine kc_new ?_ ?_; (· first | rfl | simp only [sZ]); (· first | rfl | simp)) | (refine kc_set0 ?_ ?_; (· first | rfl | simp)) | exact ct_of (by assumption) | refine ct_drew ?_ | refine ct_drewN _ ?_ | (refine ct_new ?_ ?_; (· first | rfl | simp only [sZ]); (· first | rfl | simp)) | refine ct_set _ _ ?_ | refine ct_alloc _ ?_ | (refine kc_set ?_ ?_; (focus first | (intro hx; injection hx; omega) | (simp; done))) | refine kc_alloc _ ?_)))).out.mono ?_; rintro v w1 ⟨rfl, hk1⟩; have hb1 := hk1.below; have ⟨k0, k1, k2, k3, k4, k5⟩ : w1.cell? ⟨w.heap.size, 0, none⟩ = some (.int .i64 n) ∧ w1.cell? ⟨w.heap.size, 1, none⟩ = some (.int .i64 d) ∧ w1.cell? ⟨w.heap.size + 1, 0, none⟩ = some (.int .i64 m) ∧ w1.cell? ⟨w.heap.size + 1, 1, none⟩ = some (.int .i64 e) ∧ w1.cell? ⟨w.heap.size + 1 + 1, 0, none⟩ = some (.int .i64 0) ∧ w1.cell? ⟨w.heap.size + 1 + 1, 1, none⟩ = some (.int .i64 0) := (by and_intros <;> (with_reducible repeat (first | refine kc_drew ?_ | refine kc_drewN _ ?_ | refine kc_below hb1 ?_ | (refine kc_new ?_ ?_; (· first | rfl | simp only [sZ]); (· first | rfl | simp)) | (refine kc_set0 ?_ ?_; (· first | rfl | simp)) | exact ct_of (by assumption) | refine ct_drew ?_ | refine ct_drewN _ ?_ | refine ct_below hb1 ?_ | (refine ct_new ?_ ?_; (· first | rfl | simp only [sZ]); (· first | rfl | simp)) | refine ct_set _ _ ?_ | refine ct_alloc _ ?_ | (refine kc_set ?_ ?_; (focus first | (intro hx; injection hx; omega) | (simp; done))) | refine kc_alloc _ ?_))); have ⟨k6, k7⟩ : w1.frozen? ⟨w.heap.size + 1 + 1, 0, none⟩ = false ∧ w1.frozen? ⟨w.heap.size + 1 + 1, 1, none⟩ = false := (by and_intros <;> (with_reducible repeat (first | refine kf_drew ?_ | refine kf_drewN _ ?_ | (refine kf_new ?_ _; (· first | rfl | simp only [sZ])) | refine kf_set _ _ ?_ | (refine kf_below hb1 ?_ ?_; (focus simp only [sZ]; omega)) | (refine kf_alloc _ ?_ ?_; (focus first | (simp only [sZ]; omega) | (dsimp only; omega)))))); have hz1 : w.heap.size + 4 ≤ w1.heap.size := (by have := hb1.size; simp only [World.size_alloc] at this; omega); have g1 : w.heap.size + 1 + 1 < w1.heap.size := (by omega); have hG : Gro w w1 := (by (with_reducible repeat (first | exact gro_refl _ | refine gro_alloc ?_ _ | refine gro_drew ?_ | refine gro_drewN ?_ _ | (refine gro_set ?_ ?_ _; (focus first | omega | (dsimp only; omega))) | refine gro_call ?_ hk1)))) | (go_at_call 62; refine (HC _).out.mono ?_; rintro v w2 ⟨rfl, hk2⟩; have hb2 := hk2.below; have ⟨r0, r1, r2, r3, r4, r5⟩ : w2.cell? ⟨w.heap.size, 0, none⟩ = some (.int .i64 n) ∧ w2.cell? ⟨w.heap.size, 1, none⟩ = some (.int .i64 d) ∧ w2.cell? ⟨w.heap.size + 1, 0, none⟩ = some (.int .i64 m) ∧ w2.cell? ⟨w.heap.size + 1, 1, none⟩ = some (.int .i64 e) ∧ w2.cell? ⟨w.heap.size + 1 + 1, 0, none⟩ = some (.int .i64 0) ∧ w2.cell? ⟨w.heap.size + 1 + 1, 1, none⟩ = some (.int .i64 0) := (by and_intros <;> (with_reducible repeat (first | exact k0 | exact k1 | exact k2 | exact k3 | exact k4 | exact k5 | exact k6 | exact k7 | refine kc_drew ?_ | refine kc_drewN _ ?_ | refine kc_below hb2 ?_ | (refine kc_new ?_ ?_; (· first | rfl | simp only [sZ]); (· first | rfl | simp)) | (refine kc_set0 ?_ ?_; (· first | rfl | simp)) | exact ct_of (by assumption) | refine ct_drew ?_ | refine ct_drewN _ ?_ | refine ct_below hb2 ?_ | (refine ct_new ?_ ?_; (· first | rfl | simp only [sZ]); (· first | rfl | simp)) | refine ct_set _ _ ?_ | refine ct_alloc _ ?_ | (refine kc_set ?_ ?_; (focus first | (intro hx; injection hx; omega) | (simp; done))) | refine kc_alloc _ ?_))); have ⟨r6, r7⟩ : w2.frozen? ⟨w.heap.size + 1 + 1, 0, none⟩ = false ∧ w2.frozen? ⟨w.heap.size + 1 + 1, 1, none⟩ = false := (by and_intros <;> (with_reducible repeat (first | exact k0 | exact k1 | exact k2 | exact k3 | exact k4 | exact k5 | exact k6 | exact k7 | refine kf_drew ?_ | refine kf_drewN _ ?_ | (refine kf_new ?_ _; (· first | rfl | simp only [sZ])) | refine kf_set _ _ ?_ | (refine kf_below hb2 ?_ ?_; (focus simp only [sZ]; omega)) | (refine kf_alloc _ ?_ ?_; (focus first | (simp only [sZ]; omega) | (dsimp only; omega)))))); have hz2 := hb2.size; have g2 : w.heap.size + 1 + 1 < w2.heap.size := (by omega); have hG : Gro w w2 := (by (with_reducible repeat (first | exact hG | exact gro_refl _ | refine gro_alloc ?_ _ | refine gro_drew ?_ | refine gro_drewN ?_ _ | (refine gro_set ?_ ?_ _; (focus first | omega | (dsimp only; omega))) | refine gro_call ?_ hk2)))))
    clear hb1 hk1 hb2 hk2 k0 k1 k2 k3 k4 k5 k6 k7
    go_region_held3 (fun w' => (w'.cell? ⟨w.heap.size, 0, none⟩ = some (.int .i64 n) ∧ w'.cell? ⟨w.heap.size, 1, none⟩ = some (.int .i64 d)) ∧ w'.cell? ⟨w.heap.size + 1, 0, none⟩ = some (.int .i64 m) ∧ w'.cell? ⟨w.heap.size + 1, 1, none⟩ = some (.int .i64 e))
      (((try dsimp only); (repeat' apply And.intro)) <;> (repeat (first | with_reducible exact r0 | with_reducible exact r1 | with_reducible exact r2 | with_reducible exact r3 | with_reducible rfl | with_reducible exact Below.refl _ _ | with_reducible exact gro_refl _ | with_reducible refine kc_drew ?_ | with_reducible refine kc_drewN _ ?_ | with_reducible refine kf_drew ?_ | with_reducible refine kf_drewN _ ?_ | with_reducible refine kc_below hb2 ?_ | ((with_reducible refine kc_new ?_ ?_); (focus (first | with_reducible rfl | (simp only [sZ]; done))); (focus (first | rfl | (simp; done)))) | ((with_reducible refine kc_set0 ?_ ?_); (focus (first | rfl | (simp; done)))) | with_reducible exact ct_of (r0) | with_reducible exact ct_of (r1) | with_reducible exact ct_of (r2) | with_reducible exact ct_of (r3) | with_reducible refine ct_drew ?_ | with_reducible refine ct_drewN _ ?_ | with_reducible refine ct_below hb2 ?_ | ((with_reducible refine ct_new ?_ ?_); (focus (first | with_reducible rfl | (simp only [sZ]; done))); (focus (first | rfl | (simp; done)))) | with_reducible refine ct_set _ _ ?_ | with_reducible refine ct_alloc _ ?_ | ((with_reducible refine kc_set ?_ ?_); (focus (first | (intro hx; injection hx; omega) | (simp; done)))) | with_reducible refine kc_alloc _ ?_ | ((with_reducible refine kf_new ?_ _); (focus (first | with_reducible rfl | (simp only [sZ]; done)))) | with_reducible refine kf_set _ _ ?_ | ((with_reducible refine kf_below hb2 ?_ ?_); (focus (simp only [sZ]; omega))) | ((with_reducible refine kf_alloc _ ?_ ?_); (focus (first | (simp only [sZ]; omega) | (dsimp only; omega)))) | with_reducible refine bl_alloc ?_ _ | with_reducible refine bl_drew ?_ | with_reducible refine bl_drewN ?_ _ | ((with_reducible refine bl_set ?_ ?_ _); (focus (dsimp only; omega))) | with_reducible refine bl_call ?_ hb2 | with_reducible refine gro_alloc ?_ _ | with_reducible refine gro_drew ?_ | with_reducible refine gro_drewN ?_ _ | ((with_reducible refine gro_set ?_ ?_ _); (focus (first | omega | (dsimp only; omega)))) | with_reducible refine gro_call ?_ hk2)))
      (first | (go_at_call 63; refine (negative_gro _ _ _ (by omega) (by omega)).mono ?_; rintro v w2 ⟨rfl, hk2⟩; have hb2 := hk2.below; have ⟨r0, r1, r2, r3, r4, r5⟩ : w2.cell? ⟨w.heap.size, 0, none⟩ = some (.int .i64 n) ∧ w2.cell? ⟨w.heap.size, 1, none⟩ = some (.int .i64 d) ∧ w2.cell? ⟨w.heap.size + 1, 0, none⟩ = some (.int .i64 m) ∧ w2.cell? ⟨w.heap.size + 1, 1, none⟩ = some (.int .i64 e) ∧ w2.cell? ⟨w.heap.size + 1 + 1, 0, none⟩ = some (.int .i64 0) ∧ w2.cell? ⟨w.heap.size + 1 + 1, 1, none⟩ = some (.int .i64 0) := (by and_intros <;> (with_reducible repeat (first | exact r0 | exact r1 | exact r2 | exact r3 | exact r4 | exact r5 | exact r6 | exact r7 | refine kc_drew ?_ | refine kc_drewN _ ?_ | refine kc_below hb2 ?_ | (refine kc_new ?_ ?_; (· first | rfl | simp only [sZ]); (· first | rfl | simp)) | (refine kc_set0 ?_ ?_; (· first | rfl | simp)) | exact ct_of (by assumption) | refine ct_drew ?_ | refine ct_drewN _ ?_ | refine ct_below hb2 ?_ | (refine ct_new ?_ ?_; (· first | rfl | simp only [sZ]); (· first | rfl | simp)) | refine ct_set _ _ ?_ | refine ct_alloc _ ?_ | (refine kc_set ?_ ?_; (focus first | (intro hx; injection hx; omega) | (simp; done))) | refine kc_alloc _ ?_))); have ⟨r6, r7⟩ : w2.frozen? ⟨w.heap.size + 1 + 1, 0, none⟩ = false ∧ w2.frozen? ⟨w.heap.size + 1 + 1, 1, none⟩ = false := (by and_intros <;> (with_reducible repeat (first | exact r0 | exact r1 | exact r2 | exact r3 | exact r4 | exact r5 | exact r6 | exact r7 | refine kf_drew ?_ | refine kf_drewN _ ?_ | (refine kf_new ?_ _; (· first | rfl | simp only [sZ])) | refine kf_set _ _ ?_ | (refine kf_below hb2 ?_ ?_; (focus simp only [sZ]; omega)) | (refine kf_alloc _ ?_ ?_; (focus first | (simp only [sZ]; omega) | (dsimp only; omega)))))); have hG : Gro w w2 := (by (with_reducible repeat (first | exact hG | exact gro_refl _ | refine gro_alloc ?_ _ | refine gro_drew ?_ | refine gro_drewN ?_ _ | (refine gro_set ?_ ?_ _; (focus first | omega | (dsimp only; omega))) | refine gro_call ?_ hk2))); have hz2 := hb2.size; (try simp only [World.size_alloc, World.size_drew, size_drewN] at hz2); have g2 : w.heap.size + 1 + 1 < w2.heap.size := (by omega)) | (go_at_call 64; refine (HS _).out.mono ?_; rintro v w2 ⟨rfl, hk2⟩; have hb2 := hk2.below; have ⟨r0, r1, r2, r3, r4, r5⟩ : w2.cell? ⟨w.heap.size, 0, none⟩ = some (.int .i64 n) ∧ w2.cell? ⟨w.heap.size, 1, none⟩ = some (.int .i64 d) ∧ w2.cell? ⟨w.heap.size + 1, 0, none⟩ = some (.int .i64 m) ∧ w2.cell? ⟨w.heap.size + 1, 1, none⟩ = some (.int .i64 e) ∧ w2.cell? ⟨w.heap.size + 1 + 1, 0, none⟩ = some (.int .i64 0) ∧ w2.cell? ⟨w.heap.size + 1 + 1, 1, none⟩ = some (.int .i64 0) := (by and_intros <;> (with_reducible repeat (first | exact r0 | exact r1 | exact r2 | exact r3 | exact r4 | exact r5 | exact r6 | exact r7 | refine kc_drew ?_ | refine kc_drewN _ ?_ | refine kc_below hb2 ?_ | (refine kc_new ?_ ?_; (· first | rfl | simp only [sZ]); (· first | rfl | simp)) | (refine kc_set0 ?_ ?_; (· first | rfl | simp)) | exact ct_of (by assumption) | refine ct_drew ?_ | refine ct_drewN _ ?_ | refine ct_below hb2 ?_ | (refine ct_new ?_ ?_; (· first | rfl | simp only [sZ]); (· first | rfl | simp)) | refine ct_set _ _ ?_ | refine ct_alloc _ ?_ | (refine kc_set ?_ ?_; (focus first | (intro hx; injection hx; omega) | (simp; done))) | refine kc_alloc _ ?_))); have ⟨r6, r7⟩ : w2.frozen? ⟨w.heap.size + 1 + 1, 0, none⟩ = false ∧ w2.frozen? ⟨w.heap.size + 1 + 1, 1, none⟩ = false := (by and_intros <;> (with_reducible repeat (first | exact r0 | exact r1 | exact r2 | exact r3 | exact r4 | exact r5 | exact r6 | exact r7 | refine kf_drew ?_ | refine kf_drewN _ ?_ | (refine kf_new ?_ _; (· first | rfl | simp only [sZ])) | refine kf_set _ _ ?_ | (refine kf_below hb2 ?_ ?_; (focus simp only [sZ]; omega)) | (refine kf_alloc _ ?_ ?_; (focus first | (simp only [sZ]; omega) | (dsimp only; omega)))))); have hG : Gro w w2 := (by (with_reducible repeat (first | exact hG | exact gro_refl _ | refine gro_alloc ?_ _ | refine gro_drew ?_ | refine gro_drewN ?_ _ | (refine gro_set ?_ ?_ _; (focus first | omega | (dsimp only; omega))) | refine gro_call ?_ hk2))); have hz2 := hb2.size; (try simp only [World.size_alloc, World.size_drew, size_drewN] at hz2); have g2 : w.heap.size + 1 + 1 < w2.heap.size := (by omega)))
    all_goals go_wp2_with fail
    all_goals exact bodyPost_ret (v := .tuple #[.agg #[.int .i64 (-x), .int .i64 y], .int .i64 0]) (by simp [results, Try.results24, go_sem, r4, r5, g2, Nat.ne_of_lt g2]) rfl ⟨rfl, by (repeat (first | with_reducible exact hG | with_reducible rfl | with_reducible exact Below.refl _ _ | with_reducible exact gro_refl _ | with_reducible refine kc_drew ?_ | with_reducible refine kc_drewN _ ?_ | with_reducible refine kf_drew ?_ | with_reducible refine kf_drewN _ ?_ | ((with_reducible refine kc_new ?_ ?_); (focus (first | with_reducible rfl | (simp only [sZ]; done))); (focus (first | rfl | (simp; done)))) | ((with_reducible refine kc_set0 ?_ ?_); (focus (first | rfl | (simp; done)))) | with_reducible exact ct_of (hG) | with_reducible refine ct_drew ?_ | with_reducible refine ct_drewN _ ?_ | ((with_reducible refine ct_new ?_ ?_); (focus (first | with_reducible rfl | (simp only [sZ]; done))); (focus (first | rfl | (simp; done)))) | with_reducible refine ct_set _ _ ?_ | with_reducible refine ct_alloc _ ?_ | ((with_reducible refine kc_set ?_ ?_); (focus (first | (intro hx; injection hx; omega) | (simp; done)))) | with_reducible refine kc_alloc _ ?_ | ((with_reducible refine kf_new ?_ _); (focus (first | with_reducible rfl | (simp only [sZ]; done)))) | with_reducible refine kf_set _ _ ?_ | ((with_reducible refine kf_alloc _ ?_ ?_); (focus (first | (simp only [sZ]; omega) | (dsimp only; omega)))) | with_reducible refine bl_alloc ?_ _ | with_reducible refine bl_drew ?_ | with_reducible refine bl_drewN ?_ _ | ((with_reducible refine bl_set ?_ ?_ _); (focus (dsimp only; omega))) | with_reducible refine gro_alloc ?_ _ | with_reducible refine gro_drew ?_ | with_reducible refine gro_drewN ?_ _ | ((with_reducible refine gro_set ?_ ?_ _); (focus (first | omega | (dsimp only; omega))))))⟩
  · have hm' : 0 ≤ m := by omega
    by_cases hn : n ≤ 0
    · have E : btwF n d m e = (0, 1) := by unfold btwF; rw [if_neg hm, if_pos hn]
      rw [E]
      clear E hle hc
      go_enter Try.func24, Try.ntmps24
      go_wp2_with (first | (go_at_call 61; refine (HA _ _ (by (with_reducible repeat (first | refine kc_drew ?_ | refine kc_drewN _ ?_ | (refine kc_new ?_ ?_; (· first | rfl | simp only [sZ]); (· first | rfl | simp)) | (refine kc_set0 ?_ ?_; (· first | rfl | simp)) | exact ct_of (by assumption) | refine ct_drew ?_ | refine ct_drewN _ ?_ | (refine ct_new ?_ ?_; (· first | rfl | simp only [sZ]); (· first | rfl | simp)) | refine ct_set _ _ ?_ | refine ct_alloc _ ?_ | (refine kc_set ?_ ?_; (focus first | (intro hx; injection hx; omega) | (simp; done))) | refine kc_alloc _ ?_))) (by (with_reducible repeat (first | refine kc_drew ?_ | refine kc_drewN _ ?_ | (refine kc_new ?_ ?_; (· first | rfl | simp only [sZ]); (· first | rfl | simp)) | (refine kc_set0 ?_ ?_; (· first | rfl | simp)) | exact ct_of (by assumption) | refine ct_drew ?_ | refine ct_drewN _ ?_ | (refine ct_new ?_ ?_; (· first | rfl | simp only [sZ]); (· first | rfl | simp)) | refine ct_set _ _ ?_ | refine ct_alloc _ ?_ | (refine kc_set ?_ ?_; (focus first | (intro hx; injection hx; omega) | (simp; done))) | refine kc_alloc _ ?_))) (by (with_reducible repeat (first | refine kc_drew ?_ | refine kc_drewN _ ?_ | (refine kc_new ?_ ?_; (· first | rfl | simp only [sZ]); (· first | rfl | simp)) | (refine kc_set0 ?_ ?_; (· first | rfl | simp)) | exact ct_of (by assumption) | refine ct_drew ?_ | refine ct_drewN _ ?_ | (refine ct_new ?_ ?_; (· first | rfl | simp only [sZ]); (· first | rfl | simp)) | refine ct_set _ _ ?_ | refine ct_alloc _ ?_ | (refine kc_set ?_ ?_; (focus first | (intro hx; injection hx; omega) | (simp; done))) | refine kc_alloc _ ?_))) (by (with_reducible repeat (first | refine kc_drew ?_ | refine kc_drewN _ ?_ | (refine kc_new ?_ ?_; (· first | rfl | simp only [sZ]); (· first | rfl | simp)) | (refine kc_set0 ?_ ?_; (· first | rfl | simp)) | exact ct_of (by assumption) | refine ct_drew ?_ | refine ct_drewN _ ?_ | (refine ct_new ?_ ?_; (· first | rfl | simp only [sZ]); (· first | rfl | simp)) | refine ct_set _ _ ?_ | refine ct_alloc _ ?_ | (refine kc_set ?_ ?_; (focus first | (intro hx; injection hx; omega) | (simp; done))) | refine kc_alloc _ ?_)))).out.mono ?_; rintro v w1 ⟨rfl, hk1⟩; have hb1 := hk1.below; have ⟨k0, k1, k2, k3, k4, k5⟩ : w1.cell? ⟨w.heap.size, 0, none⟩ = some (.int .i64 n) ∧ w1.cell? ⟨w.heap.size, 1, none⟩ = some (.int .i64 d) ∧ w1.cell? ⟨w.heap.size + 1, 0, none⟩ = some (.int .i64 m) ∧ w1.cell? ⟨w.heap.size + 1, 1, none⟩ = some (.int .i64 e) ∧ w1.cell? ⟨w.heap.size + 1 + 1, 0, none⟩ = some (.int .i64 0) ∧ w1.cell? ⟨w.heap.size + 1 + 1, 1, none⟩ = some (.int .i64 0) := (by and_intros <;> (with_reducible repeat (first | refine kc_drew ?_ | refine kc_drewN _ ?_ | refine kc_below hb1 ?_ | (refine kc_new ?_ ?_; (· first | rfl | simp only [sZ]); (· first | rfl | simp)) | (refine kc_set0 ?_ ?_; (· first | rfl | simp)) | exact ct_of (by assumption) | refine ct_drew ?_ | refine ct_drewN _ ?_ | refine ct_below hb1 ?_ | (refine ct_new ?_ ?_; (· first | rfl | simp only [sZ]); (· first | rfl | simp)) | refine ct_set _ _ ?_ | refine ct_alloc _ ?_ | (refine kc_set ?_ ?_; (focus first | (intro hx; injection hx; omega) | (simp; done))) | refine kc_alloc _ ?_))); have ⟨k6, k7⟩ : w1.frozen? ⟨w.heap.size + 1 + 1, 0, none⟩ = false ∧ w1.frozen? ⟨w.heap.size + 1 + 1, 1, none⟩ = false := (by and_intros <;> (with_reducible repeat (first | refine kf_drew ?_ | refine kf_drewN _ ?_ | (refine kf_new ?_ _; (· first | rfl | simp only [sZ])) | refine kf_set _ _ ?_ | (refine kf_below hb1 ?_ ?_; (focus simp only [sZ]; omega)) | (refine kf_alloc _ ?_ ?_; (focus first | (simp only [sZ]; omega) | (dsimp only; omega)))))); have hz1 : w.heap.size + 4 ≤ w1.heap.size := (by have := hb1.size; simp only [World.size_alloc] at this; omega); have g1 : w.heap.size + 1 + 1 < w1.heap.size := (by omega); have hG : Gro w w1 := (by (with_reducible repeat (first | exact gro_refl _ | refine gro_alloc ?_ _ | refine gro_drew ?_ | refine gro_drewN ?_ _ | (refine gro_set ?_ ?_ _; (focus first | omega | (dsimp only; omega))) | refine gro_call ?_ hk1)))) | (go_at_call 62; refine (HC _).out.mono ?_; rintro v w2 ⟨rfl, hk2⟩; have hb2 := hk2.below; have ⟨r0, r1, r2, r3, r4, r5⟩ : w2.cell? ⟨w.heap.size, 0, none⟩ = some (.int .i64 n) ∧ w2.cell? ⟨w.heap.size, 1, none⟩ = some (.int .i64 d) ∧ w2.cell? ⟨w.heap.size + 1, 0, none⟩ = some (.int .i64 m) ∧ w2.cell? ⟨w.heap.size + 1, 1, none⟩ = some (.int .i64 e) ∧ w2.cell? ⟨w.heap.size + 1 + 1, 0, none⟩ = some (.int .i64 0) ∧ w2.cell? ⟨w.heap.size + 1 + 1, 1, none⟩ = some (.int .i64 0) := (by and_intros <;> (with_reducible repeat (first | exact k0 | exact k1 | exact k2 | exact k3 | exact k4 | exact k5 | exact k6 | exact k7 | refine kc_drew ?_ | refine kc_drewN _ ?_ | refine kc_below hb2 ?_ | (refine kc_new ?_ ?_; (· first | rfl | simp only [sZ]); (· first | rfl | simp)) | (refine kc_set0 ?_ ?_; (· first | rfl | simp)) | exact ct_of (by assumption) | refine ct_drew ?_ | refine ct_drewN _ ?_ | refine ct_below hb2 ?_ | (refine ct_new ?_ ?_; (· first | rfl | simp only [sZ]); (· first | rfl | simp)) | refine ct_set _ _ ?_ | refine ct_alloc _ ?_ | (refine kc_set ?_ ?_; (focus first | (intro hx; injection hx; omega) | (simp; done))) | refine kc_alloc _ ?_))); have ⟨r6, r7⟩ : w2.frozen? ⟨w.heap.size + 1 + 1, 0, none⟩ = false ∧ w2.frozen? ⟨w.heap.size + 1 + 1, 1, none⟩ = false := (by and_intros <;> (with_reducible repeat (first | exact k0 | exact k1 | exact k2 | exact k3 | exact k4 | exact k5 | exact k6 | exact k7 | refine kf_drew ?_ | refine kf_drewN _ ?_ | (refine kf_new ?_ _; (· first | rfl | simp only [sZ])) | refine kf_set _ _ ?_ | (refine kf_below hb2 ?_ ?_; (focus simp only [sZ]; omega)) | (refine kf_alloc _ ?_ ?_; (focus first | (simp only [sZ]; omega) | (dsimp only; omega)))))); have hz2 := hb2.size; have g2 : w.heap.size + 1 + 1 < w2.heap.size := (by omega); have hG : Gro w w2 := (by (with_reducible repeat (first | exact hG | exact gro_refl _ | refine gro_alloc ?_ _ | refine gro_drew ?_ | refine gro_drewN ?_ _ | (refine gro_set ?_ ?_ _; (focus first | omega | (dsimp only; omega))) | refine gro_call ?_ hk2)))))
      clear hb1 hk1 hb2 hk2 k0 k1 k2 k3 k4 k5 k6 k7
      exact bodyPost_ret (v := .tuple #[.agg #[.int .i64 0, .int .i64 1], .int .i64 0]) (by simp [results, Try.results24, go_sem, r4, r5, g2, Nat.ne_of_lt g2]) rfl ⟨rfl, by (repeat (first | with_reducible exact hG | with_reducible rfl | with_reducible exact Below.refl _ _ | with_reducible exact gro_refl _ | with_reducible refine kc_drew ?_ | with_reducible refine kc_drewN _ ?_ | with_reducible refine kf_drew ?_ | with_reducible refine kf_drewN _ ?_ | ((with_reducible refine kc_new ?_ ?_); (focus (first | with_reducible rfl | (simp only [sZ]; done))); (focus (first | rfl | (simp; done)))) | ((with_reducible refine kc_set0 ?_ ?_); (focus (first | rfl | (simp; done)))) | with_reducible exact ct_of (hG) | with_reducible refine ct_drew ?_ | with_reducible refine ct_drewN _ ?_ | ((with_reducible refine ct_new ?_ ?_); (focus (first | with_reducible rfl | (simp only [sZ]; done))); (focus (first | rfl | (simp; done)))) | with_reducible refine ct_set _ _ ?_ | with_reducible refine ct_alloc _ ?_ | ((with_reducible refine kc_set ?_ ?_); (focus (first | (intro hx; injection hx; omega) | (simp; done)))) | with_reducible refine kc_alloc _ ?_ | ((with_reducible refine kf_new ?_ _); (focus (first | with_reducible rfl | (simp only [sZ]; done)))) | with_reducible refine kf_set _ _ ?_ | ((with_reducible refine kf_alloc _ ?_ ?_); (focus (first | (simp only [sZ]; omega) | (dsimp only; omega)))) | with_reducible refine bl_alloc ?_ _ | with_reducible refine bl_drew ?_ | with_reducible refine bl_drewN ?_ _ | ((with_reducible refine bl_set ?_ ?_ _); (focus (dsimp only; omega))) | with_reducible refine gro_alloc ?_ _ | with_reducible refine gro_drew ?_ | with_reducible refine gro_drewN ?_ _ | ((with_reducible refine gro_set ?_ ?_ _); (focus (first | omega | (dsimp only; omega))))))⟩
    · have hm1 : 1 ≤ m := by
        rcases (show 1 ≤ m ∨ m = 0 by omega) with h | h
        · exact h
        · exfalso
          subst h
          have : 1 * 1 ≤ n * e := Int.mul_le_mul (by omega) e1 (by omega) (by omega)
          omega
      have hT : Two n d m e := ⟨by omega, d1, hm1, e1, hle⟩
      have E : btwF n d m e = simp2 (d + e).toNat n d m e := by unfold btwF; rw [if_neg hm, if_neg hn]
      have HS := fun W => Lib.hid (simplest_any (d + e).toNat n d m e W hT (by omega) (by omega) (by omega) (by omega) (by omega))
      have L := simp_le (d + e).toNat hT (by omega)
      rw [E]
      clear E hT hle hc
      generalize simp2 (d + e).toNat n d m e = z at *
      obtain ⟨x, y⟩ := z
      simp only at L HS ⊢
      have hn' : 1 ≤ n := by omega
      go_enter Try.func24, Try.ntmps24
      go_wp2_with (first | (go_at_call 64; refine (HS _).out.mono ?_; rintro v w2 ⟨rfl, hk2⟩; have hb2 := hk2.below; have ⟨r0, r1, r2, r3, r4, r5⟩ : w2.cell? ⟨w.heap.size, 0, none⟩ = some (.int .i64 n) ∧ w2.cell? ⟨w.heap.size, 1, none⟩ = some (.int .i64 d) ∧ w2.cell? ⟨w.heap.size + 1, 0, none⟩ = some (.int .i64 m) ∧ w2.cell? ⟨w.heap.size + 1, 1, none⟩ = some (.int .i64 e) ∧ w2.cell? ⟨w.heap.size + 1 + 1, 0, none⟩ = some (.int .i64 0) ∧ w2.cell? ⟨w.heap.size + 1 + 1, 1, none⟩ = some (.int .i64 0) := (by and_intros <;> (with_reducible repeat (first | exact r0 | exact r1 | exact r2 | exact r3 | exact r4 | exact r5 | exact r6 | exact r7 | refine kc_drew ?_ | refine kc_drewN _ ?_ | refine kc_below hb2 ?_ | (refine kc_new ?_ ?_; (· first | rfl | simp only [sZ]); (· first | rfl | simp)) | (refine kc_set0 ?_ ?_; (· first | rfl | simp)) | exact ct_of (by assumption) | refine ct_drew ?_ | refine ct_drewN _ ?_ | refine ct_below hb2 ?_ | (refine ct_new ?_ ?_; (· first | rfl | simp only [sZ]); (· first | rfl | simp)) | refine ct_set _ _ ?_ | refine ct_alloc _ ?_ | (refine kc_set ?_ ?_; (focus first | (intro hx; injection hx; omega) | (simp; done))) | refine kc_alloc _ ?_))); have ⟨r6, r7⟩ : w2.frozen? ⟨w.heap.size + 1 + 1, 0, none⟩ = false ∧ w2.frozen? ⟨w.heap.size + 1 + 1, 1, none⟩ = false := (by and_intros <;> (with_reducible repeat (first | exact r0 | exact r1 | exact r2 | exact r3 | exact r4 | exact r5 | exact r6 | exact r7 | refine kf_drew ?_ | refine kf_drewN _ ?_ | (refine kf_new ?_ _; (· first | rfl | simp only [sZ])) | refine kf_set _ _ ?_ | (refine kf_below hb2 ?_ ?_; (focus simp only [sZ]; omega)) | (refine kf_alloc _ ?_ ?_; (focus first | (simp only [sZ]; omega) | (dsimp only; omega)))))); have hG : Gro w w2 := (by (with_reducible repeat (first | exact hG | exact gro_refl _ | refine gro_alloc ?_ _ | refine gro_drew ?_ | refine gro_drewN ?_ _ | (refine gro_set ?_ ?_ _; (focus first | omega | (dsimp only; omega))) | refine gro_call ?_ hk2))); have hz2 := hb2.size; (try simp only [World.size_alloc, World.size_drew, size_drewN] at hz2); have g2 : w.heap.size + 1 + 1 < w2.heap.size := (by omega)) | (go_at_call 61; refine (HA _ _ (by (with_reducible repeat (first | refine kc_drew ?_ | refine kc_drewN _ ?_ | (refine kc_new ?_ ?_; (· first | rfl | simp only [sZ]); (· first | rfl | simp)) | (refine kc_set0 ?_ ?_; (· first | rfl | simp)) | exact ct_of (by assumption) | refine ct_drew ?_ | refine ct_drewN _ ?_ | (refine ct_new ?_ ?_; (· first | rfl | simp only [sZ]); (· first | rfl | simp)) | refine ct_set _ _ ?_ | refine ct_alloc _ ?_ | (refine kc_set ?_ ?_; (focus first | (intro hx; injection hx; omega) | (simp; done))) | refine kc_alloc _ ?_))) (by (with_reducible repeat (first | refine kc_drew ?_ | refine kc_drewN _ ?_ | (refine kc_new ?_ ?_; (· first | rfl | simp only [sZ]); (· first | rfl | simp)) | (refine kc_set0 ?_ ?_; (· first | rfl | simp)) | exact ct_of (by assumption) | refine ct_drew ?_ | refine ct_drewN _ ?_ | (refine ct_new ?_ ?_; (· first | rfl | simp only [sZ]); (· first | rfl | simp)) | refine ct_set _ _ ?_ | refine ct_alloc _ ?_ | (refine kc_set ?_ ?_; (focus first | (intro hx; injection hx; omega) | (simp; done))) | refine kc_alloc _ ?_))) (by (with_reducible repeat (first | refine kc_drew ?_ | refine kc_drewN _ ?_ | (refine kc_new ?_ ?_; (· first | rfl | simp only [sZ]); (· first | rfl | simp)) | (refine kc_set0 ?_ ?_; (· first | rfl | simp)) | exact ct_of (by assumption) | refine ct_drew ?_ | refine ct_drewN _ ?_ | (refine ct_new ?_ ?_; (· first | rfl | simp only [sZ]); (· first | rfl | simp)) | refine ct_set _ _ ?_ | refine ct_alloc _ ?_ | (refine kc_set ?_ ?_; (focus first | (intro hx; injection hx; omega) | (simp; done))) | refine kc_alloc _ ?_))) (by (with_reducible repeat (first | refine kc_drew ?_ | refine kc_drewN _ ?_ | (refine kc_new ?_ ?_; (· first | rfl | simp only [sZ]); (· first | rfl | simp)) | (refine kc_set0 ?_ ?_; (· first | rfl | simp)) | exact ct_of (by assumption) | refine ct_drew ?_ | refine ct_drewN _ ?_ | (refine ct_new ?_ ?_; (· first | rfl | simp only [sZ]); (· first | rfl | simp)) | refine ct_set _ _ ?_ | refine ct_alloc _ ?_ | (refine kc_set ?_ ?_; (focus first | (intro hx; injection hx; omega) | (simp; done))) | refine kc_alloc _ ?_)))).out.mono ?_; rintro v w1 ⟨rfl, hk1⟩; have hb1 := hk1.below; have ⟨k0, k1, k2, k3, k4, k5⟩ : w1.cell? ⟨w.heap.size, 0, none⟩ = some (.int .i64 n) ∧ w1.cell? ⟨w.heap.size, 1, none⟩ = some (.int .i64 d) ∧ w1.cell? ⟨w.heap.size + 1, 0, none⟩ = some (.int .i64 m) ∧ w1.cell? ⟨w.heap.size + 1, 1, none⟩ = some (.int .i64 e) ∧ w1.cell? ⟨w.heap.size + 1 + 1, 0, none⟩ = some (.int .i64 0) ∧ w1.cell? ⟨w.heap.size + 1 + 1, 1, none⟩ = some (.int .i64 0) := (by and_intros <;> (with_reducible repeat (first | refine kc_drew ?_ | refine kc_drewN _ ?_ | refine kc_below hb1 ?_ | (refine kc_new ?_ ?_; (· first | rfl | simp only [sZ]); (· first | rfl | simp)) | (refine kc_set0 ?_ ?_; (· first | rfl | simp)) | exact ct_of (by assumption) | refine ct_drew ?_ | refine ct_drewN _ ?_ | refine ct_below hb1 ?_ | (refine ct_new ?_ ?_; (· first | rfl | simp only [sZ]); (· first | rfl | simp)) | refine ct_set _ _ ?_ | refine ct_alloc _ ?_ | (refine kc_set ?_ ?_; (focus first | (intro hx; injection hx; omega) | (simp; done))) | refine kc_alloc _ ?_))); have ⟨k6, k7⟩ : w1.frozen? ⟨w.heap.size + 1 + 1, 0, none⟩ = false ∧ w1.frozen? ⟨w.heap.size + 1 + 1, 1, none⟩ = false := (by and_intros <;> (with_reducible repeat (first | refine kf_drew ?_ | refine kf_drewN _ ?_ | (refine kf_new ?_ _; (· first | rfl | simp only [sZ])) | refine kf_set _ _ ?_ | (refine kf_below hb1 ?_ ?_; (focus simp only [sZ]; omega)) | (refine kf_alloc _ ?_ ?_; (focus first | (simp only [sZ]; omega) | (dsimp only; omega)))))); have hz1 : w.heap.size + 4 ≤ w1.heap.size := (by have := hb1.size; simp only [World.size_alloc] at this; omega); have g1 : w.heap.size + 1 + 1 < w1.heap.size := (by omega); have hG : Gro w w1 := (by (with_reducible repeat (first | exact gro_refl _ | refine gro_alloc ?_ _ | refine gro_drew ?_ | refine gro_drewN ?_ _ | (refine gro_set ?_ ?_ _; (focus first | omega | (dsimp only; omega))) | refine gro_call ?_ hk1)))) | (go_at_call 62; refine (HC _).out.mono ?_; rintro v w2 ⟨rfl, hk2⟩; have hb2 := hk2.below; have ⟨r0, r1, r2, r3, r4, r5⟩ : w2.cell? ⟨w.heap.size, 0, none⟩ = some (.int .i64 n) ∧ w2.cell? ⟨w.heap.size, 1, none⟩ = some (.int .i64 d) ∧ w2.cell? ⟨w.heap.size + 1, 0, none⟩ = some (.int .i64 m) ∧ w2.cell? ⟨w.heap.size + 1, 1, none⟩ = some (.int .i64 e) ∧ w2.cell? ⟨w.heap.size + 1 + 1, 0, none⟩ = some (.int .i64 0) ∧ w2.cell? ⟨w.heap.size + 1 + 1, 1, none⟩ = some (.int .i64 0) := (by and_intros <;> (with_reducible repeat (first | exact k0 | exact k1 | exact k2 | exact k3 | exact k4 | exact k5 | exact k6 | exact k7 | refine kc_drew ?_ | refine kc_drewN _ ?_ | refine kc_below hb2 ?_ | (refine kc_new ?_ ?_; (· first | rfl | simp only [sZ]); (· first | rfl | simp)) | (refine kc_set0 ?_ ?_; (· first | rfl | simp)) | exact ct_of (by assumption) | refine ct_drew ?_ | refine ct_drewN _ ?_ | refine ct_below hb2 ?_ | (refine ct_new ?_ ?_; (· first | rfl | simp only [sZ]); (· first | rfl | simp)) | refine ct_set _ _ ?_ | refine ct_alloc _ ?_ | (refine kc_set ?_ ?_; (focus first | (intro hx; injection hx; omega) | (simp; done))) | refine kc_alloc _ ?_))); have ⟨r6, r7⟩ : w2.frozen? ⟨w.heap.size + 1 + 1, 0, none⟩ = false ∧ w2.frozen? ⟨w.heap.size + 1 + 1, 1, none⟩ = false := (by and_intros <;> (with_reducible repeat (first | exact k0 | exact k1 | exact k2 | exact k3 | exact k4 | exact k5 | exact k6 | exact k7 | refine kf_drew ?_ | refine kf_drewN _ ?_ | (refine kf_new ?_ _; (· first | rfl | simp only [sZ])) | refine kf_set _ _ ?_ | (refine kf_below hb2 ?_ ?_; (focus simp only [sZ]; omega)) | (refine kf_alloc _ ?_ ?_; (focus first | (simp only [sZ]; omega) | (dsimp only; omega)))))); have hz2 := hb2.size; have g2 : w.heap.size + 1 + 1 < w2.heap.size := (by omega); have hG : Gro w w2 := (by (with_reducible repeat (first | exact hG | exact gro_refl _ | refine gro_alloc ?_ _ | refine gro_drew ?_ | refine gro_drewN ?_ _ | (refine gro_set ?_ ?_ _; (focus first | omega | (dsimp only; omega))) | refine gro_call ?_ hk2)))))
      exact bodyPost_ret (v := .tuple #[.agg #[.int .i64 x, .int .i64 y], .int .i64 0]) (by simp [results, Try.results24, go_sem, r4, r5, g2, Nat.ne_of_lt g2]) rfl ⟨rfl, by (repeat (first | with_reducible exact hG | with_reducible rfl | with_reducible exact Below.refl _ _ | with_reducible exact gro_refl _ | with_reducible refine kc_drew ?_ | with_reducible refine kc_drewN _ ?_ | with_reducible refine kf_drew ?_ | with_reducible refine kf_drewN _ ?_ | ((with_reducible refine kc_new ?_ ?_); (focus (first | with_reducible rfl | (simp only [sZ]; done))); (focus (first | rfl | (simp; done)))) | ((with_reducible refine kc_set0 ?_ ?_); (focus (first | rfl | (simp; done)))) | with_reducible exact ct_of (hG) | with_reducible refine ct_drew ?_ | with_reducible refine ct_drewN _ ?_ | ((with_reducible refine ct_new ?_ ?_); (focus (first | with_reducible rfl | (simp only [sZ]; done))); (focus (first | rfl | (simp; done)))) | with_reducible refine ct_set _ _ ?_ | with_reducible refine ct_alloc _ ?_ | ((with_reducible refine kc_set ?_ ?_); (focus (first | (intro hx; injection hx; omega) | (simp; done)))) | with_reducible refine kc_alloc _ ?_ | ((with_reducible refine kf_new ?_ _); (focus (first | with_reducible rfl | (simp only [sZ]; done)))) | with_reducible refine kf_set _ _ ?_ | ((with_reducible refine kf_alloc _ ?_ ?_); (focus (first | (simp only [sZ]; omega) | (dsimp only; omega)))) | with_reducible refine bl_alloc ?_ _ | with_reducible refine bl_drew ?_ | with_reducible refine bl_drewN ?_ _ | ((with_reducible refine bl_set ?_ ?_ _); (focus (dsimp only; omega))) | with_reducible refine gro_alloc ?_ _ | with_reducible refine gro_drew ?_ | with_reducible refine gro_drewN ?_ _ | ((with_reducible refine gro_set ?_ ?_ _); (focus (first | omega | (dsimp only; omega))))))⟩

end Go.Proofs.Ytoenimkgagndnaa
