/- The simplest fraction between two: that it lies between them, and that none between them is simpler. Plain mathematics; no walk. -/
import Derived.Test.YtmigddempeecoaaBetw
namespace Go.Proofs.Ytmigddempeecoaa
set_option linter.unusedVariables false
set_option linter.unusedSimpArgs false
open Go.RowKit Go.Lib

structure SimpB (n d m e p q : Int) : Prop where
  lo : n * q ≤ p * d
  hi : p * e ≤ m * q
  red : Int.gcd p q = 1
  best : ∀ a b : Int, 1 ≤ a → 1 ≤ b → n * b ≤ a * d → a * e ≤ m * b → p ≤ a ∧ q ≤ b

theorem simp_best : ∀ (k : Nat) {n d m e : Int}, Two n d m e → d + e ≤ k → SimpB n d m e (simp2 k n d m e).1 (simp2 k n d m e).2
  | 0, n, d, m, e, h, hk => by have := h.d1; have := h.e1; omega
  | k + 1, n, d, m, e, h, hk => by
    have a1 := Int.emod_add_mul_ediv n d
    have a2 := Int.emod_add_mul_ediv m e
    have b1 := Int.emod_nonneg n (show d ≠ 0 by have := h.d1; omega)
    have b2 := Int.emod_nonneg m (show e ≠ 0 by have := h.e1; omega)
    have c1 := Int.emod_lt_of_pos n (show 0 < d by have := h.d1; omega)
    have c2 := Int.emod_lt_of_pos m (show 0 < e by have := h.e1; omega)
    have low : ∀ a b : Int, 1 ≤ b → n * b ≤ a * d → n ≤ a * d := by
      intro a b hb hab
      have : n * 1 ≤ n * b := Int.mul_le_mul_of_nonneg_left hb (by have := h.n1; omega)
      omega
    unfold simp2
    by_cases hr : n % d = 0
    · rw [if_pos hr]
      have en : n / d * d = n := by rw [Int.mul_comm]; omega
      refine ⟨by simp only; omega, ?_, by simp, fun a b ha hb hab _ => ⟨?_, hb⟩⟩
      · simp only
        have h1 := h.le
        rw [← en] at h1
        have h2 : n / d * e * d ≤ m * d := by
          rw [show n / d * e * d = n / d * d * e by grind]
          exact h1
        have := Int.le_of_mul_le_mul_right h2 (by have := h.d1; omega)
        omega
      · have h1 := low a b hb hab
        rw [← en] at h1
        exact Int.le_of_mul_le_mul_right h1 (by have := h.d1; omega)
    · rw [if_neg hr]
      by_cases hq : n / d < m / e
      · rw [if_pos hq]
        refine ⟨?_, ?_, by simp, fun a b ha hb hab _ => ⟨?_, hb⟩⟩
        · simp only
          rw [Int.add_mul, Int.mul_comm (n / d)]
          omega
        · simp only
          have : e * (n / d + 1) ≤ e * (m / e) := Int.mul_le_mul_of_nonneg_left (by omega) (by have := h.e1; omega)
          rw [Int.mul_comm]
          omega
        · have h1 := low a b hb hab
          have h2 : (n / d) * d < a * d := by rw [Int.mul_comm]; omega
          have := Int.lt_of_mul_lt_mul_right h2 (by have := h.d1; omega)
          simp only
          omega
      · rw [if_neg hq]
        obtain ⟨e1, r1, s1, rd, se, hT⟩ := two_rest h hr hq
        have ih := simp_best k hT (by omega)
        have il := simp_le k hT (by omega)
        rw [← e1] at a2
        generalize (simp2 k e (m % e) d (n % d)).1 = p at *
        generalize (simp2 k e (m % e) d (n % d)).2 = q at *
        generalize n / d = v at *
        generalize n % d = r at *
        generalize m % e = s at *
        obtain ⟨ilo, ihi, ired, ib⟩ := ih
        refine ⟨?_, ?_, ?_, fun a b ha hb hab hba => ?_⟩
        · simp only
          rw [← a1]
          have : (r + d * v) * p = p * r + v * p * d := by grind
          have : (v * p + q) * d = v * p * d + d * q := by grind
          omega
        · simp only
          rw [← a2]
          have : (s + e * v) * p = p * s + v * p * e := by grind
          have : (v * p + q) * e = v * p * e + e * q := by grind
          omega
        · show Int.gcd (v * p + q) p = 1
          rw [Int.add_comm, Int.gcd_add_mul_right_left, Int.gcd_comm]
          exact ired
        · obtain ⟨t, rfl⟩ : ∃ t, a = v * b + t := ⟨a - v * b, by omega⟩
          rw [← a1] at hab
          rw [← a2] at hba
          have f1 : (r + d * v) * b = r * b + v * b * d := by grind
          have f2 : (v * b + t) * d = v * b * d + t * d := by grind
          have f3 : (s + e * v) * b = s * b + v * b * e := by grind
          have f4 : (v * b + t) * e = v * b * e + t * e := by grind
          have h1 : r * b ≤ t * d := by omega
          have h2 : t * e ≤ s * b := by omega
          have ht : 1 ≤ t := by
            rcases show 1 ≤ t ∨ t ≤ 0 by omega with h | h
            · exact h
            · exfalso
              have h3 : 0 < r * b := Int.mul_pos (by omega) (by omega)
              have h4 : t * d ≤ 0 := Int.mul_nonpos_of_nonpos_of_nonneg h (by have := hT.m1; omega)
              omega
          obtain ⟨k1, k2⟩ := ib b t hb ht (by rw [Int.mul_comm e t, Int.mul_comm b s]; exact h2) (by rw [Int.mul_comm b r, Int.mul_comm d t]; exact h1)
          refine ⟨?_, k1⟩
          have : v * p ≤ v * b := Int.mul_le_mul_of_nonneg_left k1 (by
            have h5 := h.n1
            rcases show 0 ≤ v ∨ v ≤ -1 by omega with h | h
            · exact h
            · exfalso
              have : d * v ≤ d * (-1) := Int.mul_le_mul_of_nonneg_left h (by have := hT.m1; omega)
              omega)
          simp only
          omega

/-- Between a fraction in lowest terms and itself there is this one. -/
theorem simp_self : ∀ (k : Nat) {n d : Int}, 1 ≤ n → 1 ≤ d → Int.gcd n d = 1 → d + d ≤ k → simp2 k n d n d = (n, d)
  | 0, n, d, h, h', _, hk => by omega
  | k + 1, n, d, h, h', hg, hk => by
    have a1 := Int.emod_add_mul_ediv n d
    have b1 := Int.emod_nonneg n (show d ≠ 0 by omega)
    have c1 := Int.emod_lt_of_pos n (show 0 < d by omega)
    unfold simp2
    by_cases hr : n % d = 0
    · rw [if_pos hr]
      have hd : d ∣ n := Int.dvd_of_emod_eq_zero hr
      have h1 : (Int.gcd n d : Int) = d := Int.gcd_eq_right (by omega) hd
      rw [hg] at h1
      have h2 : d = 1 := by omega
      subst h2
      simp
    · rw [if_neg hr, if_neg (by omega)]
      have hg2 : Int.gcd d (n % d) = 1 := by
        rw [← hg, ← Int.gcd_comm d n]
        conv => rhs; rw [← a1, Int.gcd_add_mul_left_right]
      rw [simp_self k (by omega) (by omega) hg2 (by omega)]
      simp only
      rw [Int.mul_comm]
      congr 1
      omega

/-- What Between gives lies between its bounds, is valid, and none between them is simpler. -/
structure BtwB (n d m e p q : Int) : Prop where
  lo : n * q ≤ p * d
  hi : p * e ≤ m * q
  ok : okF p q
  best : ∀ a b : Int, 1 ≤ b → n * b ≤ a * d → a * e ≤ m * b → q < b ∨ (q = b ∧ p.natAbs ≤ a.natAbs)
theorem btw_best {n d m e : Int} (ho : okF n d) (ho' : okF m e) (hle : n * e ≤ m * d) : BtwB n d m e (btwF n d m e).1 (btwF n d m e).2 := by
  obtain ⟨d1, d2, n2, n3, _⟩ := ho
  obtain ⟨e1, e2, m2, m3, _⟩ := ho'
  unfold btwF
  by_cases hm : m < 0
  · rw [if_pos hm]
    have hn : n < 0 := by
      rcases (show n < 0 ∨ 0 ≤ n by omega) with h | h
      · exact h
      · exfalso
        have h1 : 0 ≤ n * e := Int.mul_nonneg h (by omega)
        have h2 : m * d < 0 := Int.mul_neg_of_neg_of_pos hm (by omega)
        omega
    have hT : Two (-m) e (-n) d := ⟨by omega, e1, by omega, d1, by rw [Int.neg_mul, Int.neg_mul]; omega⟩
    obtain ⟨h1, h2, h3, h4⟩ := simp_best (d + e).toNat hT (by omega)
    obtain ⟨⟨k1, k2, k3⟩, k4, k5, k6⟩ := simp_le (d + e).toNat hT (by omega)
    generalize (simp2 (d + e).toNat (-m) e (-n) d).1 = p at *
    generalize (simp2 (d + e).toNat (-m) e (-n) d).2 = q at *
    refine ⟨?_, ?_, ⟨k4, by omega, by omega, by omega, by rw [Int.neg_gcd]; exact h3⟩, fun a b hb hab hba => ?_⟩
    · simp only [Int.neg_mul] at h2 ⊢
      omega
    · simp only [Int.neg_mul] at h1 ⊢
      omega
    · have ha : a < 0 := by
        rcases (show a < 0 ∨ 0 ≤ a by omega) with h | h
        · exact h
        · exfalso
          have h5 : 0 ≤ a * e := Int.mul_nonneg h (by omega)
          have h6 : m * b < 0 := Int.mul_neg_of_neg_of_pos hm (by omega)
          omega
      obtain ⟨k, k'⟩ := h4 (-a) b (by omega) hb (by simp only [Int.neg_mul]; omega) (by simp only [Int.neg_mul]; omega)
      omega
  · rw [if_neg hm]
    by_cases hn : n ≤ 0
    · rw [if_pos hn]
      refine ⟨?_, ?_, ⟨by omega, by omega, by omega, by omega, by decide⟩, fun a b hb _ _ => ?_⟩
      · simp only
        omega
      · simp only
        omega
      · simp only
        omega
    · rw [if_neg hn]
      have hm1 : 1 ≤ m := by
        rcases (show 1 ≤ m ∨ m = 0 by omega) with h | h
        · exact h
        · exfalso
          subst h
          have h1 : 0 < n * e := Int.mul_pos (by omega) (by omega)
          omega
      have hT : Two n d m e := ⟨by omega, d1, hm1, e1, hle⟩
      obtain ⟨h1, h2, h3, h4⟩ := simp_best (d + e).toNat hT (by omega)
      obtain ⟨⟨k1, k2, k3⟩, k4, k5, k6⟩ := simp_le (d + e).toNat hT (by omega)
      generalize (simp2 (d + e).toNat n d m e).1 = p at *
      generalize (simp2 (d + e).toNat n d m e).2 = q at *
      refine ⟨h1, h2, ⟨k4, by omega, by omega, by omega, h3⟩, fun a b hb hab hba => ?_⟩
      have ha : 1 ≤ a := by
        rcases (show 1 ≤ a ∨ a ≤ 0 by omega) with h | h
        · exact h
        · exfalso
          have h5 : a * d ≤ 0 := Int.mul_nonpos_of_nonpos_of_nonneg h (by omega)
          have h6 : 0 < n * b := Int.mul_pos (by omega) (by omega)
          omega
      obtain ⟨k, k'⟩ := h4 a b ha hb hab hba
      omega
theorem btw_mirror {n d m e : Int} (hd : 1 ≤ d) (he : 1 ≤ e) (hle : n * e ≤ m * d) : btwF (-m) e (-n) d = (-(btwF n d m e).1, (btwF n d m e).2) := by
  unfold btwF
  rw [Int.add_comm e d]
  by_cases hm : m < 0
  · have hn : n < 0 := by
      rcases (show n < 0 ∨ 0 ≤ n by omega) with h | h
      · exact h
      · exfalso
        have h1 : 0 ≤ n * e := Int.mul_nonneg h (by omega)
        have h2 : m * d < 0 := Int.mul_neg_of_neg_of_pos hm (by omega)
        omega
    rw [if_neg (by omega), if_neg (by omega), if_pos hm]
    simp
  · by_cases hn : n ≤ 0
    · rw [if_neg (by omega), if_pos (by omega), if_neg hm, if_pos hn]
      rfl
    · rw [if_pos (by omega), if_neg hm, if_neg hn, Int.neg_neg, Int.neg_neg]
theorem btw_self {n d : Int} (ho : okF n d) : btwF n d n d = (n, d) := by
  obtain ⟨d1, d2, n2, n3, hg⟩ := ho
  unfold btwF
  by_cases hm : n < 0
  · rw [if_pos hm, simp_self _ (by omega) d1 (by rw [Int.neg_gcd]; exact hg) (by omega)]
    simp
  · rw [if_neg hm]
    by_cases hn : n ≤ 0
    · rw [if_pos hn]
      obtain rfl : n = 0 := by omega
      rw [Int.gcd_zero_left] at hg
      congr 1
      omega
    · rw [if_neg hn]
      exact simp_self _ (by omega) d1 hg (by omega)
end Go.Proofs.Ytmigddempeecoaa
