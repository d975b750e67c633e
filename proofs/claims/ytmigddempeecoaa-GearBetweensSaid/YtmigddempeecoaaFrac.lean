/- Walks of package gear on fractions: wide.compare, compare, Check, fraction, Make. -/
import Derived.Test.YtmigddempeecoaaNum
import Derived.StillTailTactics
import Derived.Deep.DeepFit
import Derived.Laws.ResultCell
import Derived.WalkSmall
namespace Go.Proofs.Ytmigddempeecoaa
set_option linter.unusedVariables false
set_option linter.unusedSimpArgs false
open Go.RowKit

theorem ret_bool {a b : Bool} (h : a = b) : Ending.returned (.bool a) = .returned (.bool b) := by rw [h]

theorem inRange_any (n a b : Int) (w : World) :
    Calls Try.prog 72 #[.int .i64 n, .int .i64 a, .int .i64 b] w fun e w' => e = .returned (.bool (decide (a ≤ n ∧ n ≤ b))) ∧ w = w' := by
  by_cases h1 : a ≤ n <;> by_cases h2 : n ≤ b
  all_goals
    go_enter Try.func72, Try.ntmps72
    go_wp2
    go_ret
    exact ⟨ret_bool (by simp [h1, h2]), rfl⟩

/-- The number hi·2^64 + lo. -/
def wv (hi lo : Int) : Int := hi * 18446744073709551616 + lo

theorem wcmp_any (a b c d : Int) (w : World) (ha0 : 0 ≤ a) (ha : a ≤ 18446744073709551615) (hb0 : 0 ≤ b) (hb : b ≤ 18446744073709551615) (hc0 : 0 ≤ c) (hc : c ≤ 18446744073709551615) (hd0 : 0 ≤ d) (hd : d ≤ 18446744073709551615) :
    Calls Try.prog 88 #[.agg #[.int .u64 a, .int .u64 b], .agg #[.int .u64 c, .int .u64 d]] w fun e w' => e = .returned (.int .i64 (cmpZ (wv a b) (wv c d))) ∧ Gro w w' := by
  by_cases h : a = c
  · subst h
    have e : cmpZ b d = cmpZ (wv a b) (wv a d) := by unfold cmpZ wv; split <;> split <;> (try split) <;> (try split) <;> omega
    have e0 : (a != a) = false := by simp
    have E := Lib.hid e
    clear e
    go_enter Try.func88, Try.ntmps88
    go_wp2_with (go_at_call 110; refine (cmpU_any _ _ _ hb0 hb hd0 hd).mono ?_; rintro e w' ⟨rfl, rfl⟩)
    go_ret
    exact ⟨ret_i64 E.out, gro_alloc (gro_alloc (gro_refl _) _) _⟩
  · have e : cmpZ a c = cmpZ (wv a b) (wv c d) := by unfold cmpZ wv; split <;> split <;> (try split) <;> (try split) <;> omega
    have e0 : (a != c) = true := by simp; omega
    have E := Lib.hid e
    clear e h
    go_enter Try.func88, Try.ntmps88
    go_wp2_with (go_at_call 110; refine (cmpU_any _ _ _ ha0 ha hc0 hc).mono ?_; rintro e w' ⟨rfl, rfl⟩)
    go_ret
    exact ⟨ret_i64 E.out, gro_alloc (gro_alloc (gro_refl _) _) _⟩

theorem negative_any (n d : Int) (w : World) (h0 : -9223372036854775807 ≤ n) (h1 : n ≤ 9223372036854775807) :
    Calls Try.prog 63 #[.agg #[.int .i64 n, .int .i64 d]] w fun e w' => e = .returned (.agg #[.int .i64 (-n), .int .i64 d]) ∧ Below w.heap.size w w' := by
  go_enter Try.func63, Try.ntmps63
  go_wp2
  exact bodyPost_ret (v := .agg #[.int .i64 (-n), .int .i64 d]) (by simp [results, Try.results63, go_sem]) rfl ⟨rfl, ((Below.refl _ _).alloc (Nat.le_refl _) _).alloc (by simp) _⟩

/-- A fraction that is valid. -/
def okF (n d : Int) : Prop := 1 ≤ d ∧ d ≤ 4611686018427387904 ∧ -4611686018427387904 ≤ n ∧ n ≤ 4611686018427387904 ∧ Int.gcd n d = 1
instance (n d : Int) : Decidable (okF n d) := by unfold okF; infer_instance
/-- What Check returns. -/
def ckF (n d : Int) : Int := if okF n d then 0 else 2
theorem ckF_bad {n d : Int} (h : ¬ okF n d) : ckF n d = 2 := by unfold ckF; rw [if_neg h]
theorem ckF_ok {n d : Int} (h : okF n d) : ckF n d = 0 := by unfold ckF; rw [if_pos h]

set_option maxHeartbeats 400000 in
theorem check_any (n d : Int) (w : World) (hn : -9223372036854775808 ≤ n) (hn' : n ≤ 9223372036854775807) (hd : -9223372036854775808 ≤ d) (hd' : d ≤ 9223372036854775807) :
    Calls Try.prog 20 #[.agg #[.int .i64 n, .int .i64 d]] w fun e w' => e = .returned (.int .i64 (ckF n d)) ∧ Gro w w' := by
  by_cases h1 : d < 1
  · go_enter Try.func20, Try.ntmps20
    go_wp2
    go_ret
    exact ⟨ret_i64 (ckF_bad (by unfold okF; omega)).symm, gro_alloc (gro_refl _) _⟩
  by_cases h2 : 4611686018427387904 < d
  · go_enter Try.func20, Try.ntmps20
    go_wp2
    go_ret
    exact ⟨ret_i64 (ckF_bad (by unfold okF; omega)).symm, gro_alloc (gro_refl _) _⟩
  by_cases h3 : n < -4611686018427387904
  · go_enter Try.func20, Try.ntmps20
    go_wp2
    go_ret
    exact ⟨ret_i64 (ckF_bad (by unfold okF; omega)).symm, gro_alloc (gro_refl _) _⟩
  by_cases h4 : 4611686018427387904 < n
  · go_enter Try.func20, Try.ntmps20
    go_wp2
    go_ret
    exact ⟨ret_i64 (ckF_bad (by unfold okF; omega)).symm, gro_alloc (gro_refl _) _⟩
  have hc := gcd_any n.natAbs d.natAbs
  have d1 : decide (4611686018427387904 < d) = false := by simpa using h2
  have d2 : decide (n < -4611686018427387904) = false := by simpa using h3
  have d3 : decide (4611686018427387904 < n) = false := by simpa using h4
  by_cases hg : Int.gcd n d = 1
  · have E := Lib.hid (ckF_ok (n := n) (d := d) ⟨by omega, by omega, by omega, by omega, hg⟩)
    have hq : (((Nat.gcd n.natAbs d.natAbs : Nat) : Int) != 1) = false := by
      have : Nat.gcd n.natAbs d.natAbs = 1 := hg
      simp [this]
    generalize Nat.gcd n.natAbs d.natAbs = g at *
    clear hg
    go_enter Try.func20, Try.ntmps20
    go_wp2
    go_quiet ((first | (go_at_call 53; exact qt_same (mag_any _ _ (by omega) (by omega))) | (go_at_call 54; exact Calls.quiet_of (hc _ (by omega) (by omega)))))
    go_wp2
    go_ret
    exact ⟨ret_i64 E.out.symm, gro_drewN (gro_alloc (gro_refl _) _) _⟩
  · have E := Lib.hid (ckF_bad (n := n) (d := d) (fun h => hg h.2.2.2.2))
    have hq : (((Nat.gcd n.natAbs d.natAbs : Nat) : Int) != 1) = true := by
      have : ¬ Nat.gcd n.natAbs d.natAbs = 1 := hg
      simp; omega
    generalize Nat.gcd n.natAbs d.natAbs = g at *
    clear hg
    go_enter Try.func20, Try.ntmps20
    go_wp2
    go_quiet ((first | (go_at_call 53; exact qt_same (mag_any _ _ (by omega) (by omega))) | (go_at_call 54; exact Calls.quiet_of (hc _ (by omega) (by omega)))))
    go_wp2
    go_ret
    exact ⟨ret_i64 E.out.symm, gro_drewN (gro_alloc (gro_refl _) _) _⟩
end Go.Proofs.Ytmigddempeecoaa
