/- Texts that gearBest_holds reaches: NearM, Near, Nearest, SubQ, GNear. -/
import Derived.Test.YtoenimkgagndnaaBa
import Derived.Test.YtoenimkgagndnaaBb
import Derived.Test.YtoenimkgagndnaaBr
import Derived.Test.YtoenimkgagndnaaBq
import Derived.Test.YtoenimkgagndnaaBi
namespace Go.Proofs.Ytoenimkgagndnaa
set_option linter.unusedVariables false
set_option linter.unusedSimpArgs false

/-- Two fractions round a third one, n/d: last = p1/q1 and the one before it; f0, f1: how far off they are, times the denominators. -/
structure NI (n d most p0 q0 p1 q1 f0 f1 : Int) : Prop where
  hp0 : 0 ≤ p0
  hq0 : 0 ≤ q0
  hp1 : 0 ≤ p1
  hq1 : 0 ≤ q1
  hf0 : 0 ≤ f0
  hf1 : 0 ≤ f1
  ed : f0 * q1 + f1 * q0 = d
  en : f0 * p1 + f1 * p0 = n
  det : p0 * q1 - p1 * q0 = 1 ∨ p0 * q1 - p1 * q0 = -1
  q0m : q0 ≤ most
  q1m : q1 ≤ most
  st : (q1 = 0 ∧ q0 = 1 ∧ p1 = 1 ∧ p0 = 0) ∨ (1 ≤ q1 ∧ f1 < f0)

theorem NI.start {n d most : Int} (h0 : 0 ≤ n) (h1 : n < d) (hm : 1 ≤ most) : NI n d most 0 1 1 0 n d :=
  ⟨by omega, by omega, by omega, by omega, h0, by omega, by omega, by omega, by omega, hm, by omega, .inl ⟨rfl, rfl, rfl, rfl⟩⟩

theorem NI.pos {n d most p0 q0 p1 q1 f0 f1 : Int} (h : NI n d most p0 q0 p1 q1 f0 f1) (hg : Int.gcd n d = 1) (hm : most < d) : 1 ≤ f1 := by
  rcases (show f1 = 0 ∨ 1 ≤ f1 by have := h.hf1; omega) with rfl | h1
  · have e1 := h.ed
    have e2 := h.en
    rw [Int.zero_mul, Int.add_zero] at e1 e2
    have hd : f0 ∣ ((Int.gcd n d : Nat) : Int) := Int.dvd_coe_gcd ⟨p1, e2.symm⟩ ⟨q1, e1.symm⟩
    rw [hg] at hd
    have hle := Int.le_of_dvd (by omega) hd
    have := h.q1m
    have h0 := h.hf0
    rcases (show f0 = 0 ∨ f0 = 1 by omega) with rfl | rfl
    · have := h.hq1; omega
    · omega
  · exact h1

/-- A step of c from before along last stays in bounds. -/
theorem NI.le {n d most p0 q0 p1 q1 f0 f1 : Int} (h : NI n d most p0 q0 p1 q1 f0 f1) (hf : 1 ≤ f1) {c : Int} (c0 : 0 ≤ c) (hc : c * f1 ≤ f0) :
    (0 ≤ c * p1 ∧ 0 ≤ c * q1) ∧ p0 + c * p1 ≤ n ∧ q0 + c * q1 ≤ d := by
  have a1 := Int.mul_nonneg c0 h.hp1
  have a2 := Int.mul_nonneg c0 h.hq1
  have b1 := Int.mul_le_mul_of_nonneg_right hc h.hp1
  have b2 := Int.mul_le_mul_of_nonneg_right hc h.hq1
  have c1 : 1 * (p0 + c * p1) ≤ f1 * (p0 + c * p1) := Int.mul_le_mul_of_nonneg_right hf (by have := h.hp0; omega)
  have c2 : 1 * (q0 + c * q1) ≤ f1 * (q0 + c * q1) := Int.mul_le_mul_of_nonneg_right hf (by have := h.hq0; omega)
  have d1 : f1 * (p0 + c * p1) = f1 * p0 + c * f1 * p1 := by rw [Int.mul_add, ← Int.mul_assoc, Int.mul_comm f1 c]
  have d2 : f1 * (q0 + c * q1) = f1 * q0 + c * f1 * q1 := by rw [Int.mul_add, ← Int.mul_assoc, Int.mul_comm f1 c]
  have e1 := h.ed
  have e2 := h.en
  refine ⟨⟨a1, a2⟩, by omega, by omega⟩

theorem NI.next {n d most p0 q0 p1 q1 f0 f1 : Int} (h : NI n d most p0 q0 p1 q1 f0 f1) (hf : 1 ≤ f1) (hn : q0 + f0 / f1 * q1 ≤ most) :
    NI n d most p1 q1 (p0 + f0 / f1 * p1) (q0 + f0 / f1 * q1) f1 (f0 % f1) := by
  have q0' : 0 ≤ f0 / f1 := Int.ediv_nonneg h.hf0 h.hf1
  have qm : f0 / f1 * f1 ≤ f0 := Int.ediv_mul_le _ (by omega)
  obtain ⟨⟨a1, a2⟩, a3, a4⟩ := h.le hf q0' qm
  have hr := Int.emod_nonneg f0 (show f1 ≠ 0 by omega)
  have hr2 := Int.emod_lt_of_pos f0 (show 0 < f1 by omega)
  have hdm : f0 % f1 = f0 - f1 * (f0 / f1) := by rw [Int.emod_def]
  have e1 := h.ed
  have e2 := h.en
  have g1 : f1 * (q0 + f0 / f1 * q1) + f0 % f1 * q1 = d := by
    rw [hdm, Int.mul_add, Int.sub_mul, Int.mul_assoc]; omega
  have g2 : f1 * (p0 + f0 / f1 * p1) + f0 % f1 * p1 = n := by
    rw [hdm, Int.mul_add, Int.sub_mul, Int.mul_assoc]; omega
  have hp0 := h.hp0
  have hq0 := h.hq0
  refine ⟨h.hp1, h.hq1, by omega, by omega, h.hf1, hr, g1, g2, ?_, h.q1m, hn, ?_⟩
  · have e : p1 * (q0 + f0 / f1 * q1) - (p0 + f0 / f1 * p1) * q1 = -(p0 * q1 - p1 * q0) := by
      rw [Int.mul_add, Int.add_mul, Int.mul_left_comm p1, Int.mul_assoc, Int.mul_comm p1 q1]
      omega
    rw [e]
    have := h.det
    omega
  · refine .inr ⟨?_, hr2⟩
    rcases h.st with ⟨rfl, rfl, _, _⟩ | ⟨k1, k2⟩
    · omega
    · have : 1 ≤ f0 / f1 := (Int.le_ediv_iff_mul_le (by omega)).2 (by omega)
      have := Int.mul_le_mul this k1 (by omega) q0'
      omega

/-- Every fraction with a small denominator is at least as far off as the one of two neighbours that lies on its side. -/
theorem near_pair {n d most P Q R S f g e : Int} (he : e = 1 ∨ e = -1) (hdet : R * Q - P * S = e) (ed : f * S + g * Q = d) (en : f * R + g * P = n) (hf : 1 ≤ f) (hg : 1 ≤ g) (hQ : 1 ≤ Q) (hS : 1 ≤ S) (hm : most < Q + S) {r s : Int} (hs : 1 ≤ s) (hsm : s ≤ most) :
    (f * s ≤ ((n * s - d * r).natAbs : Int) * Q ∧ (f * s = ((n * s - d * r).natAbs : Int) * Q → ∃ u, 1 ≤ u ∧ r = u * P ∧ s = u * Q)) ∨
    (g * s ≤ ((n * s - d * r).natAbs : Int) * S ∧ (g * s = ((n * s - d * r).natAbs : Int) * S → ∃ v, 1 ≤ v ∧ r = v * R ∧ s = v * S)) := by
  obtain ⟨u, hu⟩ : ∃ u, u = e * (R * s - S * r) := ⟨_, rfl⟩
  obtain ⟨v, hv⟩ : ∃ v, v = e * (Q * r - P * s) := ⟨_, rfl⟩
  have ee : e * e = 1 := by rcases he with rfl | rfl <;> rfl
  have er : r = u * P + v * R := by
    have : u * P + v * R = e * ((R * Q - P * S) * r) := by
      rw [hu, hv, Int.mul_assoc, Int.mul_assoc, ← Int.mul_add]
      congr 1
      simp only [Int.sub_mul]
      have a1 : R * s * P = P * s * R := by rw [Int.mul_right_comm, Int.mul_comm R P, Int.mul_right_comm]
      have a2 : S * r * P = P * S * r := by rw [Int.mul_comm, Int.mul_assoc]
      have a3 : Q * r * R = R * Q * r := by rw [Int.mul_comm, Int.mul_assoc]
      omega
    rw [this, hdet, ← Int.mul_assoc, ee, Int.one_mul]
  have es : s = u * Q + v * S := by
    have : u * Q + v * S = e * ((R * Q - P * S) * s) := by
      rw [hu, hv, Int.mul_assoc, Int.mul_assoc, ← Int.mul_add]
      congr 1
      simp only [Int.sub_mul]
      have a1 : R * s * Q = R * Q * s := by rw [Int.mul_right_comm]
      have a2 : S * r * Q = Q * r * S := by rw [Int.mul_right_comm, Int.mul_comm S Q, Int.mul_right_comm]
      have a3 : P * s * S = P * S * s := by rw [Int.mul_right_comm]
      omega
    rw [this, hdet, ← Int.mul_assoc, ee, Int.one_mul]
  have eoff : n * s - d * r = e * (f * u - g * v) := by
    have k1 : n * s - d * r = f * (R * s - S * r) - g * (Q * r - P * s) := by
      rw [← en, ← ed]
      simp only [Int.add_mul, Int.mul_sub, Int.mul_assoc]
      omega
    have k2 : e * u = R * s - S * r := by rw [hu, ← Int.mul_assoc, ee, Int.one_mul]
    have k3 : e * v = Q * r - P * s := by rw [hv, ← Int.mul_assoc, ee, Int.one_mul]
    rw [k1, ← k2, ← k3, Int.mul_sub, Int.mul_left_comm f, Int.mul_left_comm g]
  have eabs : ((n * s - d * r).natAbs : Int) = ((f * u - g * v).natAbs : Int) := by
    rw [eoff, Int.natAbs_mul]
    rcases he with rfl | rfl <;> simp
  rw [eabs]
  clear eabs eoff hu hv ee
  by_cases hv0 : v ≤ 0
  · left
    have hu1 : 1 ≤ u := by
      rcases Int.lt_or_le u 1 with k | k
      · have k1 := Int.mul_nonpos_of_nonpos_of_nonneg (show u ≤ 0 by omega) (show 0 ≤ Q by omega)
        have k2 := Int.mul_nonpos_of_nonpos_of_nonneg hv0 (show 0 ≤ S by omega)
        omega
      · exact k
    have gv := Int.mul_nonpos_of_nonneg_of_nonpos (show 0 ≤ g by omega) hv0
    have fu := Int.mul_nonneg (show 0 ≤ f by omega) (show 0 ≤ u by omega)
    have e1 : ((f * u - g * v).natAbs : Int) = f * u - g * v := by omega
    rw [e1]
    have k1 : f * s = f * u * Q + f * v * S := by rw [es, Int.mul_add, ← Int.mul_assoc, ← Int.mul_assoc]
    have k2 : (f * u - g * v) * Q = f * u * Q - g * v * Q := Int.sub_mul _ _ _
    have m1 := Int.mul_nonpos_of_nonpos_of_nonneg (Int.mul_nonpos_of_nonneg_of_nonpos (show 0 ≤ f by omega) hv0) (show 0 ≤ S by omega)
    have m2 := Int.mul_nonpos_of_nonpos_of_nonneg gv (show 0 ≤ Q by omega)
    refine ⟨by omega, fun h => ?_⟩
    have hz : f * v * S = 0 := by omega
    have hv : v = 0 := by
      rcases Int.mul_eq_zero.1 hz with h | h
      · rcases Int.mul_eq_zero.1 h with h | h
        · omega
        · exact h
      · omega
    subst hv
    exact ⟨u, hu1, by omega, by omega⟩
  · right
    have hu0 : u ≤ 0 := by
      rcases Int.lt_or_le u 1 with k | k
      · omega
      · have k1 := Int.mul_le_mul_of_nonneg_right k (show 0 ≤ Q by omega)
        have k2 := Int.mul_le_mul_of_nonneg_right (show 1 ≤ v by omega) (show 0 ≤ S by omega)
        omega
    have gv := Int.mul_nonneg (show 0 ≤ g by omega) (show 0 ≤ v by omega)
    have fu := Int.mul_nonpos_of_nonneg_of_nonpos (show 0 ≤ f by omega) hu0
    have e1 : ((f * u - g * v).natAbs : Int) = g * v - f * u := by omega
    rw [e1]
    have k1 : g * s = g * u * Q + g * v * S := by rw [es, Int.mul_add, ← Int.mul_assoc, ← Int.mul_assoc]
    have k2 : (g * v - f * u) * S = g * v * S - f * u * S := Int.sub_mul _ _ _
    have m1 := Int.mul_nonpos_of_nonpos_of_nonneg (Int.mul_nonpos_of_nonneg_of_nonpos (show 0 ≤ g by omega) hu0) (show 0 ≤ Q by omega)
    have m2 := Int.mul_nonpos_of_nonpos_of_nonneg fu (show 0 ≤ S by omega)
    refine ⟨by omega, fun h => ?_⟩
    have hz : g * u * Q = 0 := by omega
    have hu : u = 0 := by
      rcases Int.mul_eq_zero.1 hz with h | h
      · rcases Int.mul_eq_zero.1 h with h | h
        · omega
        · exact h
      · omega
    subst hu
    exact ⟨v, by omega, by omega, by omega⟩

/-- P/Q is the nearest fraction to n/d with a denominator up to most: no other one is nearer; of equally near ones it has the lesser denominator, or is the lesser one. -/
def NearP (n d most P Q : Int) : Prop := 1 ≤ Q ∧ Q ≤ most ∧ Int.gcd P Q = 1 ∧ ∀ r s, 1 ≤ s → s ≤ most →
  ((n * Q - d * P).natAbs : Int) * s ≤ ((n * s - d * r).natAbs : Int) * Q ∧ (((n * Q - d * P).natAbs : Int) * s = ((n * s - d * r).natAbs : Int) * Q → Q < s ∨ (Q = s ∧ P ≤ r))

theorem gcd_det {P Q R S e : Int} (he : e = 1 ∨ e = -1) (hdet : R * Q - P * S = e) : Int.gcd P Q = 1 ∧ Int.gcd R S = 1 := by
  have key : ∀ {a b c d e : Int}, (e = 1 ∨ e = -1) → a * b - c * d = e → Int.gcd c b = 1 := by
    intro a b c d e he h
    have h1 : ((Int.gcd c b : Nat) : Int) ∣ c := Int.gcd_dvd_left ..
    have h2 : ((Int.gcd c b : Nat) : Int) ∣ b := Int.gcd_dvd_right ..
    have h3 : ((Int.gcd c b : Nat) : Int) ∣ e := by
      rw [← h]
      exact Int.dvd_sub (Int.dvd_mul_of_dvd_right h2) (Int.dvd_mul_of_dvd_left h1)
    have h4 : ((Int.gcd c b : Nat) : Int) ∣ 1 := by
      rcases he with rfl | rfl
      · exact h3
      · exact (Int.dvd_neg (b := 1)).1 h3
    have := Int.le_of_dvd (by omega) h4
    have h0 : Int.gcd c b ≠ 0 := fun h => by
      rw [h] at h4
      have := Int.zero_dvd.1 h4
      omega
    omega
  refine ⟨key he hdet, key (a := P) (c := R) (b := S) (d := Q) (e := -e) (by omega) (by omega)⟩

/-- The same, of a fraction from 0 up to 1, with bounds. -/
def NearB (n d most P Q : Int) : Prop := NearP n d most P Q ∧ 0 ≤ P ∧ P ≤ n ∧ ((n * Q - d * P).natAbs : Int) ≤ d - Q
theorem near_take {n d most P Q R S f g e : Int} (he : e = 1 ∨ e = -1) (hdet : R * Q - P * S = e) (ed : f * S + g * Q = d) (en : f * R + g * P = n) (hf : 1 ≤ f) (hg : 1 ≤ g) (hQ : 1 ≤ Q) (hS : 1 ≤ S) (hQm : Q ≤ most) (hSm : S ≤ most) (hm : most < Q + S)
    (htie : g * Q = f * S → Q < S ∨ (Q = S ∧ P ≤ R)) :
    ((g * Q < f * S → NearP n d most R S) ∧ (¬ g * Q < f * S → NearP n d most P Q)) ∧ ((n * Q - d * P).natAbs : Int) ≤ d - Q ∧ ((n * S - d * R).natAbs : Int) ≤ d - S := by
  obtain ⟨gc1, gc2⟩ := gcd_det he hdet
  have o1 : ((n * Q - d * P).natAbs : Int) = f := by
    have : n * Q - d * P = f * e := by
      rw [← en, ← ed, ← hdet]
      simp only [Int.add_mul, Int.mul_sub, Int.mul_assoc]
      rw [Int.mul_comm P Q, Int.mul_comm S P]
      omega
    rw [this, Int.natAbs_mul]
    rcases he with rfl | rfl <;> simp <;> omega
  have o2 : ((n * S - d * R).natAbs : Int) = g := by
    have : n * S - d * R = -(g * e) := by
      rw [← en, ← ed, ← hdet]
      simp only [Int.add_mul, Int.mul_sub, Int.mul_assoc]
      rw [Int.mul_comm R S, Int.mul_comm Q R]
      omega
    rw [this, Int.natAbs_neg, Int.natAbs_mul]
    rcases he with rfl | rfl <;> simp <;> omega
  have t1 := Int.mul_le_mul_of_nonneg_left hS (show 0 ≤ f by omega)
  have t2 := Int.mul_le_mul_of_nonneg_right hg (show 0 ≤ Q by omega)
  have t3 := Int.mul_le_mul_of_nonneg_left hQ (show 0 ≤ g by omega)
  have t4 := Int.mul_le_mul_of_nonneg_right hf (show 0 ≤ S by omega)
  refine ⟨?_, by omega, by omega⟩
  constructor
  · intro hlt
    refine ⟨hS, hSm, gc2, fun r s hs hsm => ?_⟩
    rw [o2]
    generalize hD : ((n * s - d * r).natAbs : Int) = D
    rcases near_pair he hdet ed en hf hg hQ hS hm (r := r) hs hsm with ⟨h1, _⟩ | ⟨h1, h2⟩
    · rw [hD] at h1
      have k1 := Int.mul_lt_mul_of_pos_right hlt (show 0 < s by omega)
      have k2 := Int.mul_le_mul_of_nonneg_right h1 (show 0 ≤ S by omega)
      have e1 : g * Q * s = (g * s) * Q := Int.mul_right_comm _ _ _
      have e2 : f * S * s = f * s * S := Int.mul_right_comm _ _ _
      have e3 : D * Q * S = (D * S) * Q := Int.mul_right_comm _ _ _
      have k3 : (g * s) * Q < (D * S) * Q := by omega
      have k4 := Int.lt_of_mul_lt_mul_right k3 (by omega)
      exact ⟨by omega, fun h => by omega⟩
    · rw [hD] at h1 h2
      refine ⟨h1, fun h => ?_⟩
      obtain ⟨v, hv, rfl, rfl⟩ := h2 h
      rcases (show v = 1 ∨ 2 ≤ v by omega) with rfl | h3
      · right; omega
      · left
        have := Int.mul_le_mul_of_nonneg_right h3 (show 0 ≤ S by omega)
        omega
  · intro hge
    refine ⟨hQ, hQm, gc1, fun r s hs hsm => ?_⟩
    rw [o1]
    generalize hD : ((n * s - d * r).natAbs : Int) = D
    rcases near_pair he hdet ed en hf hg hQ hS hm (r := r) hs hsm with ⟨h1, h2⟩ | ⟨h1, h2⟩
    · rw [hD] at h1 h2
      refine ⟨h1, fun h => ?_⟩
      obtain ⟨u, hu, rfl, rfl⟩ := h2 h
      rcases (show u = 1 ∨ 2 ≤ u by omega) with rfl | h3
      · right; omega
      · left
        have := Int.mul_le_mul_of_nonneg_right h3 (show 0 ≤ Q by omega)
        omega
    · rw [hD] at h1 h2
      have k1 := Int.mul_le_mul_of_nonneg_right (show f * S ≤ g * Q by omega) (show 0 ≤ s by omega)
      have k2 := Int.mul_le_mul_of_nonneg_right h1 (show 0 ≤ Q by omega)
      have e1 : f * S * s = (f * s) * S := Int.mul_right_comm _ _ _
      have e2 : g * Q * s = g * s * Q := Int.mul_right_comm _ _ _
      have e3 : D * S * Q = (D * Q) * S := Int.mul_right_comm _ _ _
      have k3 : (f * s) * S ≤ (D * Q) * S := by omega
      have k4 := Int.le_of_mul_le_mul_right k3 (show 0 < S by omega)
      refine ⟨k4, fun h => ?_⟩
      rw [h] at e1
      have k5 : g * s * Q = D * S * Q := by omega
      have k6 := Int.eq_of_mul_eq_mul_right (show Q ≠ 0 by omega) k5
      obtain ⟨v, hv, rfl, rfl⟩ := h2 k6
      have k7 : f * S * (v * S) = g * Q * (v * S) := by rw [e1, e2, k5, e3]
      have k8 := Int.eq_of_mul_eq_mul_right (show v * S ≠ 0 by omega) k7
      have ht := htie k8.symm
      rcases (show v = 1 ∨ 2 ≤ v by omega) with rfl | h3
      · rw [Int.one_mul, Int.one_mul]; omega
      · left
        have := Int.mul_le_mul_of_nonneg_right h3 (show 0 ≤ S by omega)
        omega

/-- The end of the search. -/
theorem NI.done {n d most p0 q0 p1 q1 f0 f1 : Int} (h : NI n d most p0 q0 p1 q1 f0 f1) (hf : 1 ≤ f1) (h1 : n < d) (hm : most < q0 + f0 / f1 * q1) (m1 : 1 ≤ most) {c : Int} (hc : (most - q0) / q1 = c) :
    1 ≤ q1 ∧ 0 ≤ c ∧ c * f1 ≤ f0 ∧ 1 ≤ f0 - c * f1 ∧ 1 ≤ q0 + c * q1 ∧ q0 + c * q1 ≤ most ∧
    ((f0 - c * f1) * q1 < f1 * (q0 + c * q1) → NearB n d most (p0 + c * p1) (q0 + c * q1)) ∧ (¬ (f0 - c * f1) * q1 < f1 * (q0 + c * q1) → NearB n d most p1 q1) := by
  have hst : 1 ≤ q1 ∧ f1 < f0 := by
    rcases h.st with ⟨rfl, rfl, _, _⟩ | h
    · omega
    · exact h
  obtain ⟨hq1, hlt⟩ := hst
  have c0 : 0 ≤ c := by rw [← hc]; exact Int.ediv_nonneg (by have := h.q0m; omega) (by omega)
  have c1 : c * q1 ≤ most - q0 := by rw [← hc]; exact Int.ediv_mul_le _ (by omega)
  have c2 : most - q0 < (c + 1) * q1 := by rw [← hc]; exact Int.lt_ediv_add_one_mul_self _ (by omega)
  have ca : c < f0 / f1 := by
    rcases Int.lt_or_le c (f0 / f1) with k | k
    · exact k
    · have := Int.mul_le_mul_of_nonneg_right k (show 0 ≤ q1 by omega)
      omega
  have qm : f0 / f1 * f1 ≤ f0 := Int.ediv_mul_le _ (by omega)
  have cf : (c + 1) * f1 ≤ f0 := by
    have := Int.mul_le_mul_of_nonneg_right (show c + 1 ≤ f0 / f1 by omega) (show 0 ≤ f1 by omega)
    omega
  rw [Int.add_mul, Int.one_mul] at cf c2
  obtain ⟨e, he, hdet⟩ : ∃ e, (e = 1 ∨ e = -1) ∧ p0 * q1 - p1 * q0 = e := ⟨_, h.det, rfl⟩
  have hdet' : (p0 + c * p1) * q1 - p1 * (q0 + c * q1) = e := by
    rw [Int.add_mul, Int.mul_add, Int.mul_left_comm p1, Int.mul_assoc]
    omega
  have S1 : 1 ≤ q0 + c * q1 := by
    rcases (show q0 + c * q1 = 0 ∨ 1 ≤ q0 + c * q1 by have := h.hq0; have := Int.mul_nonneg c0 h.hq1; omega) with k | k
    · have hq := h.q1m
      have hq0 := h.hq0
      have := Int.mul_nonneg c0 h.hq1
      omega
    · exact k
  have ed' : f1 * (q0 + c * q1) + (f0 - c * f1) * q1 = d := by
    rw [Int.mul_add, Int.sub_mul, Int.mul_left_comm f1, Int.mul_assoc]
    have := h.ed
    omega
  have en' : f1 * (p0 + c * p1) + (f0 - c * f1) * p1 = n := by
    rw [Int.mul_add, Int.sub_mul, Int.mul_left_comm f1, Int.mul_assoc]
    have := h.en
    omega
  have T := near_take he hdet' ed' en' hf (show 1 ≤ f0 - c * f1 by omega) hq1 S1 h.q1m (by omega) (by omega) (fun ht => ?_)
  · have b1 := (h.le hf c0 (by omega)).2.1
    have b2 := (h.le hf c0 (by omega)).1.1
    have b3 := Int.mul_le_mul_of_nonneg_right (show 1 ≤ f0 by omega) h.hp1
    have b4 := Int.mul_nonneg h.hf1 h.hp0
    have hp0 := h.hp0
    have hp1 := h.hp1
    have en := h.en
    exact ⟨hq1, c0, by omega, by omega, S1, by omega, fun k => ⟨T.1.1 k, by omega, by omega, T.2.2⟩, fun k => ⟨T.1.2 k, by omega, by omega, T.2.1⟩⟩
  · have k1 : f1 * q1 ≤ f1 * (q0 + c * q1) := by
      rw [← ht]
      exact Int.mul_le_mul_of_nonneg_right (by omega) (by omega)
    have k2 := Int.le_of_mul_le_mul_left k1 (show 0 < f1 by omega)
    rcases (show q1 < q0 + c * q1 ∨ q0 + c * q1 = q1 by omega) with k | k
    · exact .inl k
    · refine .inr ⟨k.symm, ?_⟩
      rw [k] at ht
      have hgf := Int.eq_of_mul_eq_mul_right (show q1 ≠ 0 by omega) ht
      rcases (show c = 0 ∨ 1 ≤ c by omega) with rfl | hc1
      · rw [Int.zero_mul] at hgf
        omega
      · have hq0 := h.hq0
        have := Int.mul_le_mul_of_nonneg_right hc1 (show 0 ≤ q1 by omega)
        have q00 : q0 = 0 := by omega
        rw [q00] at hdet
        have ed := h.ed
        have en := h.en
        rw [q00, Int.mul_zero, Int.add_zero] at ed
        rw [Int.mul_zero, Int.sub_zero] at hdet
        have hp0 := h.hp0
        have hp1 := h.hp1
        have q11 : q1 = 1 := by
          have := Int.mul_nonneg hp0 h.hq1
          rcases (show p0 = 0 ∨ 1 ≤ p0 by omega) with rfl | hp
          · omega
          · have := Int.mul_le_mul_of_nonneg_right hp (show 0 ≤ q1 by omega)
            omega
        rw [q11, Int.mul_one] at ed
        have p10 : p1 = 0 := by
          rcases (show p1 = 0 ∨ 1 ≤ p1 by omega) with k | k
          · exact k
          · have a := Int.mul_le_mul_of_nonneg_left k (show 0 ≤ f0 by omega)
            have b := Int.mul_nonneg h.hf1 hp0
            omega
        rw [p10]
        have := Int.mul_nonneg c0 hp1
        omega
end Go.Proofs.Ytoenimkgagndnaa
namespace Go.Proofs.Ytoenimkgagndnaa
set_option linter.unusedVariables false
set_option linter.unusedSimpArgs false
open Go.RowKit Go.Lib

end Go.Proofs.Ytoenimkgagndnaa
namespace Go.Proofs.Ytoenimkgagndnaa
set_option linter.unusedVariables false
set_option linter.unusedSimpArgs false
open Go.RowKit Go.Lib

end Go.Proofs.Ytoenimkgagndnaa
namespace Go.Proofs.Ytoenimkgagndnaa
set_option linter.unusedVariables false
set_option linter.unusedSimpArgs false
open Go.RowKit Go.Lib Go.Dig

end Go.Proofs.Ytoenimkgagndnaa
namespace Go.Proofs.Ytoenimkgagndnaa
set_option linter.unusedVariables false
set_option linter.unusedSimpArgs false
open Go.RowKit Go.Lib

theorem valid_true (n d : Int) (w : World) (h : okF n d) : Calls Try.prog 22 #[.agg #[.int .i64 n, .int .i64 d]] w fun v w' => v = .returned (.bool true) ∧ Below w.heap.size w w' := by
  have := valid_any n d w
  rwa [decide_eq_true h] at this
theorem valid_false (n d : Int) (w : World) (h : ¬ okF n d) : Calls Try.prog 22 #[.agg #[.int .i64 n, .int .i64 d]] w fun v w' => v = .returned (.bool false) ∧ Below w.heap.size w w' := by
  have := valid_any n d w
  rwa [decide_eq_false h] at this
theorem okF_bd {n d : Int} (h : okF n d) : 1 ≤ d ∧ d ≤ 4611686018427387904 ∧ -4611686018427387904 ≤ n ∧ n ≤ 4611686018427387904 := ⟨h.1, h.2.1, h.2.2.1, h.2.2.2.1⟩

end Go.Proofs.Ytoenimkgagndnaa
