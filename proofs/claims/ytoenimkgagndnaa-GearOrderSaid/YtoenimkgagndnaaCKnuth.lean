/- The plain side of the sum of two fractions: what can be cancelled (Knuth). -/
import Derived.Test.YtoenimkgagndnaaGg
namespace Go.Proofs.Ytoenimkgagndnaa
set_option linter.unusedVariables false
set_option linter.unusedSimpArgs false

/-- What can be cancelled from a sum of fractions in lowest terms is a part of what the denominators share (Knuth). -/
theorem cop_part {n d' e' m : Int} (h1 : Int.gcd n d' = 1) (h2 : Int.gcd e' d' = 1) : Nat.Coprime (n * e' + m * d').natAbs d'.natAbs := by
  have : Int.gcd (n * e' + m * d') d' = Int.gcd (n * e') d' := by rw [Int.gcd_add_mul_right_left]
  show Int.gcd (n * e' + m * d') d' = 1
  rw [this]
  show Nat.gcd (n * e').natAbs d'.natAbs = 1
  rw [Int.natAbs_mul]
  exact Nat.Coprime.mul_left h1 h2

theorem knuth {n d m e : Int} (hd : 1 ≤ d) (he : 1 ≤ e) (hn : Int.gcd n d = 1) (hm : Int.gcd m e = 1) {g : Nat} (hg : Int.gcd d e = g) {t : Int} (ht : t = n * (e / g) + m * (d / g)) {c : Nat} (hc : Nat.gcd t.natAbs g = c) :
    1 ≤ g ∧ 1 ≤ c ∧ n * e + m * d = g * t ∧ Nat.gcd (n * e + m * d).natAbs (d.natAbs * e.natAbs) = g * c ∧ (c : Int) ∣ e ∧ (g : Int) ∣ d ∧ (g : Int) ∣ e ∧ c ∣ t.natAbs ∧ c ∣ g := by
  have g0 : 0 < g := by rw [← hg]; exact Int.gcd_pos_of_ne_zero_left _ (by omega)
  have dd : (g : Int) ∣ d := by rw [← hg]; exact Int.gcd_dvd_left ..
  have de : (g : Int) ∣ e := by rw [← hg]; exact Int.gcd_dvd_right ..
  obtain ⟨d', hd'⟩ := dd
  obtain ⟨e', he'⟩ := de
  have q1 : d / g = d' := by rw [hd']; exact Int.mul_ediv_cancel_left _ (by omega)
  have q2 : e / g = e' := by rw [he']; exact Int.mul_ediv_cancel_left _ (by omega)
  rw [q1, q2] at ht
  have hcop : Int.gcd d' e' = 1 := by
    have : g * Int.gcd d' e' = g * 1 := by
      rw [Nat.mul_one]
      have := Int.gcd_mul_left (g : Int) d' e'
      rw [← hd', ← he', hg] at this
      simpa using this.symm
    exact Nat.eq_of_mul_eq_mul_left g0 this
  have n1 : Int.gcd n d' = 1 := by
    have h : Int.gcd n d' ∣ Int.gcd n d := by rw [hd']; exact Int.gcd_dvd_gcd_mul_left_right ..
    rw [hn] at h
    exact Nat.dvd_one.1 h
  have m1 : Int.gcd m e' = 1 := by
    have h : Int.gcd m e' ∣ Int.gcd m e := by rw [he']; exact Int.gcd_dvd_gcd_mul_left_right ..
    rw [hm] at h
    exact Nat.dvd_one.1 h
  have c1 : Nat.Coprime t.natAbs d'.natAbs := by rw [ht]; exact cop_part n1 (by rw [Int.gcd_comm]; exact hcop)
  have c2 : Nat.Coprime t.natAbs e'.natAbs := by rw [ht, Int.add_comm]; exact cop_part m1 hcop
  have c0 : 0 < c := by rw [← hc]; exact Nat.gcd_pos_of_pos_right _ g0
  have hsum : n * e + m * d = g * t := by
    rw [ht, Int.mul_add, Int.mul_left_comm (g : Int) n, Int.mul_left_comm (g : Int) m, ← he', ← hd']
  have hcg : c ∣ g := by rw [← hc]; exact Nat.gcd_dvd_right ..
  refine ⟨g0, c0, hsum, ?_, ?_, ⟨d', hd'⟩, ⟨e', he'⟩, ?_, hcg⟩
  · rw [hsum, Int.natAbs_mul, Int.natAbs_natCast]
    have : d.natAbs * e.natAbs = g * (d'.natAbs * e'.natAbs * g) := by
      rw [hd', he', Int.natAbs_mul, Int.natAbs_mul, Int.natAbs_natCast, Nat.mul_assoc, Nat.mul_assoc, Nat.mul_comm g e'.natAbs]
    rw [this, Nat.gcd_mul_left, Nat.Coprime.gcd_mul_left_cancel_right _ (Nat.Coprime.symm (Nat.Coprime.mul_right c1 c2)), hc]
  · obtain ⟨k, hk⟩ := hcg
    exact ⟨k * e', by rw [he', hk]; simp [Int.mul_assoc]⟩
  · rw [← hc]; exact Nat.gcd_dvd_left ..
end Go.Proofs.Ytoenimkgagndnaa
