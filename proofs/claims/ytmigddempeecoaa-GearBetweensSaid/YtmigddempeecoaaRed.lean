/- Fractions in lowest terms: the plain side, Make and the product of two. -/
import Derived.Test.YtmigddempeecoaaChk
namespace Go.Proofs.Ytmigddempeecoaa
set_option linter.unusedVariables false
set_option linter.unusedSimpArgs false
open Go.RowKit Go.Lib

/-- What is returned for a/b (or -a/b): the fraction in lowest terms, or that it is out of range. -/
def redV (neg : Bool) (a b : Nat) : Value :=
  if 4611686018427387904 < a / Nat.gcd a b ∨ 4611686018427387904 < b / Nat.gcd a b then .tuple #[.agg #[.int .i64 0, .int .i64 0], .int .i64 5]
  else .tuple #[.agg #[.int .i64 (if neg = true then -((a / Nat.gcd a b : Nat) : Int) else ((a / Nat.gcd a b : Nat) : Int)), .int .i64 ((b / Nat.gcd a b : Nat) : Int)], .int .i64 0]

theorem red_scale (neg : Bool) {k a b : Nat} (hk : 0 < k) : redV neg (k * a) (k * b) = redV neg a b := by
  unfold redV
  rw [Nat.gcd_mul_left, Nat.mul_div_mul_left _ _ hk, Nat.mul_div_mul_left _ _ hk]
theorem red_zero (p q : Bool) (b : Nat) : redV p 0 b = redV q 0 b := by
  unfold redV
  simp

theorem cross {a b d e : Nat} (h1 : Nat.gcd a d = 1) (h2 : Nat.gcd b e = 1) (hd : 0 < d) (he : 0 < e) :
    a * b / Nat.gcd (a * b) (d * e) = a / Nat.gcd a e * (b / Nat.gcd b d) ∧ d * e / Nat.gcd (a * b) (d * e) = d / Nat.gcd b d * (e / Nat.gcd a e) := by
  have hp : 0 < Nat.gcd a e := Nat.gcd_pos_of_pos_right a he
  have hq : 0 < Nat.gcd b d := Nat.gcd_pos_of_pos_right b hd
  have c1 : Nat.Coprime (a / Nat.gcd a e) (e / Nat.gcd a e) := Nat.coprime_div_gcd_div_gcd hp
  have c2 : Nat.Coprime (b / Nat.gcd b d) (d / Nat.gcd b d) := Nat.coprime_div_gcd_div_gcd hq
  have ea := Nat.div_mul_cancel (Nat.gcd_dvd_left a e)
  have ee := Nat.div_mul_cancel (Nat.gcd_dvd_right a e)
  have eb := Nat.div_mul_cancel (Nat.gcd_dvd_left b d)
  have ed := Nat.div_mul_cancel (Nat.gcd_dvd_right b d)
  generalize Nat.gcd a e = p at *
  generalize Nat.gcd b d = q at *
  generalize a / p = a' at *
  generalize e / p = e' at *
  generalize b / q = b' at *
  generalize d / q = d' at *
  have k1 : Nat.Coprime a' d' := Nat.Coprime.coprime_dvd_left ⟨p, ea.symm⟩ (Nat.Coprime.coprime_dvd_right ⟨q, ed.symm⟩ h1)
  have k2 : Nat.Coprime b' e' := Nat.Coprime.coprime_dvd_left ⟨q, eb.symm⟩ (Nat.Coprime.coprime_dvd_right ⟨p, ee.symm⟩ h2)
  have hc : Nat.Coprime (a' * b') (d' * e') := Nat.Coprime.mul_left (Nat.Coprime.mul_right k1 c1) (Nat.Coprime.mul_right c2 k2)
  have e1 : a * b = p * q * (a' * b') := by rw [← ea, ← eb]; grind
  have e2 : d * e = p * q * (d' * e') := by rw [← ed, ← ee]; grind
  have hpq : 0 < p * q := Nat.mul_pos hp hq
  rw [e1, e2, Nat.gcd_mul_left, show Nat.gcd (a' * b') (d' * e') = 1 from hc, Nat.mul_one, Nat.mul_div_cancel_left _ hpq, Nat.mul_div_cancel_left _ hpq]
  exact ⟨rfl, rfl⟩

/-- Make, in one word. -/
theorem make_red (num den : Int) (w : World) (hn : -9223372036854775808 ≤ num) (hn' : num ≤ 9223372036854775807) (hd : -9223372036854775808 ≤ den) (hd' : den ≤ 9223372036854775807) (h0 : den ≠ 0) :
    Calls Try.prog 17 #[.int .i64 num, .int .i64 den] w fun e w' => e = .returned (redV (decide (num < 0) != decide (den < 0)) num.natAbs den.natAbs) ∧ Gro w w' := by
  refine (make_any num den w hn hn' hd hd').mono ?_
  rintro e w' ⟨hg, hm⟩
  refine ⟨?_, hg⟩
  rcases hm with ⟨h, _⟩ | ⟨_, h⟩
  · exact absurd h h0
  · have h' := h _ _ rfl rfl
    clear h
    unfold redV
    generalize num.natAbs / Nat.gcd num.natAbs den.natAbs = A at *
    generalize den.natAbs / Nat.gcd num.natAbs den.natAbs = B at *
    rcases h' with ⟨h1, he⟩ | ⟨h1, he⟩
    · rw [he, if_pos (show 4611686018427387904 < A ∨ 4611686018427387904 < B by omega)]
    · rw [he, if_neg (show ¬ (4611686018427387904 < A ∨ 4611686018427387904 < B) by omega)]

theorem gcd_gro (a b : Nat) (w : World) (ha : a ≤ 18446744073709551615) (hb : b ≤ 18446744073709551615) :
    Calls Try.prog 54 #[.int .u64 a, .int .u64 b] w fun e w' => e = .returned (.int .u64 (Nat.gcd a b : Nat)) ∧ Gro w w' :=
  (gcd_any a b w ha hb).mono fun _ _ ⟨he, n, hw⟩ => ⟨he, hw ▸ gro_drewN (gro_refl _) n⟩
theorem mag_gro (a : Int) (w : World) (h0 : -9223372036854775808 ≤ a) (h1 : a ≤ 9223372036854775807) :
    Calls Try.prog 53 #[.int .i64 a] w fun e w' => e = .returned (.int .u64 (a.natAbs : Nat)) ∧ Gro w w' :=
  (mag_any a w h0 h1).mono fun _ _ ⟨he, hw⟩ => ⟨he, gro_id hw⟩
end Go.Proofs.Ytmigddempeecoaa
