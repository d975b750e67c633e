/- GearTurns returns true for every input: after the turns of Meet as many teeth have passed on both, and there are no fewer. No condition. -/
import Derived.Test.YtmigddempeecoaaMeetR
import Derived.Test.YtmigddempeecoaaLaw
namespace Go.Proofs.Ytmigddempeecoaa
set_option linter.unusedVariables false
set_option linter.unusedSimpArgs false
open Go.ChangeShapes Go.WideShapes Go.ChangeAt Go.RowKit

theorem tooth_of (a : Int) : ∃ x : Nat, 1 ≤ x ∧ x ≤ 200 ∧ a.tmod 200 % 200 + 1 = (x : Int) ∧ -199 ≤ a.tmod 200 ∧ a.tmod 200 ≤ 199 := by
  have h1 := Int.tmod_lt_of_pos a (show (0 : Int) < 200 by decide)
  have h2 : -200 < a.tmod 200 := by
    have := Int.lt_tmod_of_pos a (show (0 : Int) < 200 by decide)
    exact this
  refine ⟨(a.tmod 200 % 200 + 1).toNat, ?_, ?_, ?_, ?_, ?_⟩ <;> omega

set_option maxHeartbeats 2000000 in
set_option maxRecDepth 100000 in
theorem gearTurns_walk (a b : Int) (w : World) :
    Calls Try.prog 15 #[.int .i64 a, .int .i64 b] w fun e w' => e = .returned (.bool true) ∧ Below w.heap.size w w' := by
  obtain ⟨x, x1, x2, hx, hx3, hx4⟩ := tooth_of a
  obtain ⟨y, y1, y2, hy, hy3, hy4⟩ := tooth_of b
  have HM := fun W => Lib.hid (meet_ok x y W x1 x2 y1 y2)
  have HN := fun W => Lib.hid (meet_ok y x W y1 y2 x1 x2)
  rw [Nat.gcd_comm y x] at HN
  obtain ⟨g1, g2, g3, b1, b2, b3, b4, b5⟩ := meet_bd (w := x) (p := y) x1 y1
  have HC : Hid (Nat.Coprime (x / Nat.gcd x y) (y / Nat.gcd x y)) := Nat.coprime_div_gcd_div_gcd g1
  generalize y / Nat.gcd x y = q at *
  generalize x / Nat.gcd x y = r at *
  clear g1 g2 g3
  have hm : q * x ≤ 200 * 200 := Nat.mul_le_mul (by omega) x2
  have m1 : 0 ≤ (q : Int) * (x : Int) := Int.mul_nonneg (by omega) (by omega)
  have m2 : (q : Int) * (x : Int) ≤ 40000 := by
    have : ((q * x : Nat) : Int) ≤ 40000 := by omega
    rwa [Int.natCast_mul] at this
  have e0 : (r : Int) * (y : Int) = (q : Int) * (x : Int) := by rw [← Int.natCast_mul, ← Int.natCast_mul, b5]
  clear b5 hm
  go_enter Try.func15, Try.ntmps15
  go_wp2_with (first | (go_at_call 30; ((with_reducible refine (HM _).out.mono ?_); rintro e w1 ⟨rfl, hk1⟩; have hb1 := hk1.below)) | (go_at_call 30; ((with_reducible refine (HN _).out.mono ?_); rintro e w2 ⟨rfl, hk2⟩; have hb2 := hk2.below)) | (go_at_call 23; refine (lives_any _).mono ?_; rintro e w3 ⟨rfl, hb3⟩))
  clear HM HN hx hy hx3 hx4 hy3 hy4 m1 m2 e0
  go_loop [11] (fun t => ∃ k : Nat, 2 ≤ k ∧ k ≤ 201 ∧ t = .int .i64 k) (fun t => 201 - (intOf t).toNat)
  case atStart => exact ⟨2, Nat.le_refl _, by decide, rfl⟩
  case round =>
    obtain ⟨k, k2, k201, rfl⟩ := hrel
    have kz : ¬ (k : Int) = 0 := by omega
    have hno : Hid (¬ ((q : Int) % (k : Int) = 0 ∧ (r : Int) % (k : Int) = 0)) := by
      rintro ⟨h1, h2⟩
      have d1 := Int.natCast_dvd_natCast.1 (Int.dvd_of_emod_eq_zero h1)
      have d2 := Int.natCast_dvd_natCast.1 (Int.dvd_of_emod_eq_zero h2)
      have := Nat.dvd_gcd d2 d1
      rw [show Nat.gcd r q = 1 from HC.out] at this
      have := Nat.le_of_dvd (by decide) this
      omega
    by_cases hkq : k ≤ q
    · by_cases hkr : k ≤ r
      · by_cases h1 : (q : Int) % (k : Int) = 0
        · have h2 : ¬ (r : Int) % (k : Int) = 0 := fun h => hno.out ⟨h1, h⟩
          have t2 : ((r : Int) % (k : Int) == 0) = false := by simpa using h2
          go_wp2_with fail
          go_round
          case rel => exact ⟨k + 1, by omega, by omega, by go_num⟩
          case measure => simp [intOf]; omega
        · have t2 : ((q : Int) % (k : Int) == 0) = false := by simpa using h1
          go_wp2_with fail
          go_round
          case rel => exact ⟨k + 1, by omega, by omega, by go_num⟩
          case measure => simp [intOf]; omega
      · go_wp2_with fail
        go_ret
        exact ⟨rfl, by (repeat (first | with_reducible exact Below.refl _ _ | with_reducible refine bl_alloc ?_ _ | with_reducible refine bl_drew ?_ | with_reducible refine bl_drewN ?_ _ | ((with_reducible refine bl_set ?_ ?_ _); (focus (dsimp only; omega))) | with_reducible refine bl_call ?_ hb1 | with_reducible refine bl_call ?_ hb2 | with_reducible refine bl_call ?_ hb3))⟩
    · go_wp2_with fail
      go_ret
      exact ⟨rfl, by (repeat (first | with_reducible exact Below.refl _ _ | with_reducible refine bl_alloc ?_ _ | with_reducible refine bl_drew ?_ | with_reducible refine bl_drewN ?_ _ | ((with_reducible refine bl_set ?_ ?_ _); (focus (dsimp only; omega))) | with_reducible refine bl_call ?_ hb1 | with_reducible refine bl_call ?_ hb2 | with_reducible refine bl_call ?_ hb3))⟩

set_option maxRecDepth 100000 in
theorem gearTurns_lifted (os : Os) (started : os.Started) (H : Type) (enc : TypeId × Value → H) :
    ReturnsInHanded {} Try.checked os 15 .any (Rows.gearTurnsSpec.pre6 enc Try.prog Try.f15 Rows.gearTurnsRow.domain false) (Rows.gearTurnsSpec.post enc Try.prog Try.f15 false true false false) := by
  refine returnsInHanded_of_change (C := Try.checked) law_own started (by kernel_rfl) Try.func15
    (ChangeSpec.witness6 (enc := enc) (C := Try.checked) false ⟨#[], #[.int .i64 0, .int .i64 0], []⟩ 8 (by kernel_rfl) (by kernel_rfl) (by kernel_rfl) (by kernel_rfl)) ?_
  intro W base args ds gs before hval0 hW hcnd _
  have hval : ∀ (j : Nat) t v, Try.f15.params[j]? = some t → args[j]? = some v → Value.okWide Try.prog W .any base t v := hval0
  have hW' := hW
  obtain ⟨p, q, hA0, hV, rfl, hfz, hnd⟩ := hW
  have hA : DataW.TrodAll enc Try.prog W 0 (fun _ => true) true Try.f15.params.toList args.toList ds p := hA0
  have hA1 := hA
  rw [Try.params15] at hA hval
  obtain ⟨v0, vs0, d0, ds0, p0, q0, hargs, rfl, rfl, h0, r0⟩ := trodAll_cons hA
  obtain ⟨v1, vs1, d1, ds1, p1, q1, rfl, rfl, rfl, h1, r1⟩ := trodAll_cons r0
  obtain ⟨rfl, rfl, rfl⟩ := trodAll_nil r1
  obtain rfl : args = #[v0, v1] := by cases args; simp_all
  obtain ⟨rfl, rfl⟩ := trodVars_none hV
  obtain ⟨a0, rfl, rfl, rfl, w0⟩ := open_int Try.underlying3 (hval 0 3 v0 rfl rfl) h0
  obtain ⟨a1, rfl, rfl, rfl, w1⟩ := open_int Try.underlying3 (hval 1 3 v1 rfl rfl) h1
  simp only [List.append_nil] at hW'
  refine (gearTurns_walk a0 a1  W).mono fun e W' ⟨he, hb⟩ => ?_
  subst he
  exact ⟨_, rfl, law_post hW' hA1 hb rfl (by kernel_rfl) rfl rfl⟩

/-- The statement. -/
theorem gearTurns_holds : Rows.GearTurnsSaid :=
  OpenClaim.holds_of_wide 15 Try.f15 rfl rfl rfl rfl rfl rfl rfl ⟨rfl, rfl, rfl, rfl, rfl⟩ rfl rfl rfl rfl rfl (by kernel_rfl) Try.func15 (by kernel_rfl)
    (of_decide_eq_true (by kernel_rfl)) (by unfold Func.isWrapper; first | (rw [if_pos (by decide +kernel)]; kernel_rfl) | (rw [if_neg (by decide +kernel)]; exact ⟨rfl, rfl⟩))
    (fun os started H enc _ => gearTurns_lifted os started H enc)
#print axioms gearTurns_holds
end Go.Proofs.Ytmigddempeecoaa
