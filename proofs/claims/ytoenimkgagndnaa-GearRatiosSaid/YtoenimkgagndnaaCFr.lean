/- Fractions of small numbers in lowest terms, and their products. -/
import Derived.Test.YtoenimkgagndnaaCRtrain
namespace Go.Proofs.Ytoenimkgagndnaa
set_option linter.unusedVariables false
set_option linter.unusedSimpArgs false
open Go.RowKit Go.Lib

def frN (a b : Nat) : Int := ((a / Nat.gcd a b : Nat) : Int)
def frD (a b : Nat) : Int := ((b / Nat.gcd a b : Nat) : Int)
theorem fr_bd {a b : Nat} (hb : 1 ≤ b) : 0 ≤ frN a b ∧ frN a b ≤ a ∧ 1 ≤ frD a b ∧ frD a b ≤ b := by
  unfold frN frD
  have hg : 0 < Nat.gcd a b := Nat.gcd_pos_of_pos_right a hb
  have h1 := Nat.div_le_self a (Nat.gcd a b)
  have h2 := Nat.div_le_self b (Nat.gcd a b)
  have h3 : 1 ≤ b / Nat.gcd a b := Nat.div_pos (Nat.gcd_le_right a hb) hg
  generalize a / Nat.gcd a b = p at *
  generalize b / Nat.gcd a b = q at *
  omega
theorem fr_ok {a b : Nat} (ha : a ≤ 4611686018427387904) (hb : 1 ≤ b) (hb' : b ≤ 4611686018427387904) : okF (frN a b) (frD a b) := by
  obtain ⟨h1, h2, h3, h4⟩ := fr_bd (a := a) hb
  refine ⟨h3, by omega, by omega, by omega, ?_⟩
  have hg : 0 < Nat.gcd a b := Nat.gcd_pos_of_pos_right a hb
  exact Nat.coprime_div_gcd_div_gcd hg
theorem red_small {a b : Nat} (ha : a ≤ 4611686018427387904) (hb' : b ≤ 4611686018427387904) : redV false a b = .tuple #[.agg #[.int .i64 (frN a b), .int .i64 (frD a b)], .int .i64 0] := by
  unfold redV
  have h1 := Nat.div_le_self a (Nat.gcd a b)
  have h2 := Nat.div_le_self b (Nat.gcd a b)
  rw [if_neg (by omega)]
  rfl
theorem mul_fr {a b x y : Nat} (hb : 1 ≤ b) (hy : 1 ≤ y) : mulV (frN a b) (frD a b) (frN x y) (frD x y) = redV false (a * x) (b * y) := by
  have e1 := Nat.div_mul_cancel (Nat.gcd_dvd_left a b)
  have e2 := Nat.div_mul_cancel (Nat.gcd_dvd_right a b)
  have e3 := Nat.div_mul_cancel (Nat.gcd_dvd_left x y)
  have e4 := Nat.div_mul_cancel (Nat.gcd_dvd_right x y)
  have g1 : 0 < Nat.gcd a b := Nat.gcd_pos_of_pos_right a hb
  have g2 : 0 < Nat.gcd x y := Nat.gcd_pos_of_pos_right x hy
  unfold mulV frN frD
  generalize Nat.gcd a b = g at *
  generalize Nat.gcd x y = h at *
  generalize a / g = a' at *
  generalize b / g = b' at *
  generalize x / h = x' at *
  generalize y / h = y' at *
  rw [decide_eq_false (by omega), decide_eq_false (by omega), show (false != false) = false from rfl]
  simp only [Int.natAbs_natCast]
  have e := red_scale false (k := g * h) (a := a' * x') (b := b' * y') (Nat.mul_pos g1 g2)
  rw [← e]
  congr 1
  · rw [← e1, ← e3]; grind
  · rw [← e2, ← e4]; grind
theorem fr_self {a : Nat} (ha : 1 ≤ a) : frN a a = 1 ∧ frD a a = 1 := by
  unfold frN frD
  rw [Nat.gcd_self, Nat.div_self ha]
  exact ⟨rfl, rfl⟩

def prodN (xs : List Int) : Nat := (prodL xs).natAbs
theorem prodN_take {xs : List Int} {k : Nat} (h : k < xs.length) : prodN (xs.take (k + 1)) = prodN (xs.take k) * (xs.getD k 0).natAbs := by
  unfold prodN
  rw [prodL_take h, Int.natAbs_mul]
theorem prodN_bd {xs : List Int} {k : Nat} (hk : k ≤ 6) (h : k ≤ xs.length) (hi : ∀ i, i < k → inT (xs.getD i 0)) : 1 ≤ prodN (xs.take k) ∧ prodN (xs.take k) ≤ 64000000000000 := by
  unfold prodN
  have h1 := prodL_bd h hi
  have h2 := pow200 k hk
  omega
/-- Ratio of good trains. -/
theorem rat_good {xs ys : List Int} (h : okT 6 xs ys) : ratV xs ys = .tuple #[.agg #[.int .i64 (frN (prodN xs) (prodN ys)), .int .i64 (frD (prodN xs) (prodN ys))], .int .i64 0] := by
  have h' := h
  obtain ⟨⟨h1, h2⟩, h3, h4, h5⟩ := h'
  have b1 := prodN_bd (xs := xs) (k := xs.length) (by omega) (Nat.le_refl _) (all_getD.1 h4)
  have b2 := prodN_bd (xs := ys) (k := ys.length) (by omega) (Nat.le_refl _) (all_getD.1 h5)
  rw [List.take_length] at b1 b2
  unfold ratV
  rw [if_pos h]
  exact red_small (by unfold prodN at b1; omega) (by unfold prodN at b2; omega)
theorem okT_swap {xs ys : List Int} (h : okT 6 xs ys) : okT 6 ys xs := by
  obtain ⟨⟨h1, h2⟩, h3, h4, h5⟩ := h
  exact ⟨⟨by omega, by omega⟩, h3.symm, h5, h4⟩
theorem okT_one {xs ys : List Int} (h : okT 6 xs ys) {k : Nat} (hk : k < xs.length) : okT 6 [xs.getD k 0] [ys.getD k 0] := by
  obtain ⟨⟨h1, h2⟩, h3, h4, h5⟩ := h
  refine ⟨⟨by simp, by simp⟩, by simp, ?_, ?_⟩
  · intro x hx
    rw [List.mem_singleton.1 hx]
    exact all_getD.1 h4 k hk
  · intro x hx
    rw [List.mem_singleton.1 hx]
    exact all_getD.1 h5 k (by omega)
theorem prodN_one (x : Int) : prodN [x] = x.natAbs := by simp [prodN, prodL]
end Go.Proofs.Ytoenimkgagndnaa
