/- GearRatios returns true for every input: Ratio and Fits return what the document says of any train and any limits. No condition. -/
import Derived.Test.YtoenimkgagndnaaCGRatios
import Derived.Test.YtoenimkgagndnaaCCameT
namespace Go.Proofs.Ytoenimkgagndnaa
set_option linter.unusedVariables false
set_option linter.unusedSimpArgs false
open Go.ChangeShapes Go.WideShapes Go.ChangeAt Go.RowKit

theorem gearRatios_walk (a b : Option Addr) (n c' m e' : Nat) (xs ys : List Int) (l0 l1 l2 l3 l4 : Int) (w : World) (hx : Rd w (.slice a n c') xs) (hy : Rd w (.slice b m e') ys) (hc : c' ≤ maxLen) (he : e' ≤ maxLen)
    (_bd : (-9223372036854775808 ≤ l0 ∧ l0 ≤ 9223372036854775807) ∧ (-9223372036854775808 ≤ l1 ∧ l1 ≤ 9223372036854775807) ∧ (-9223372036854775808 ≤ l2 ∧ l2 ≤ 9223372036854775807) ∧ (-9223372036854775808 ≤ l3 ∧ l3 ≤ 9223372036854775807) ∧ (-9223372036854775808 ≤ l4 ∧ l4 ≤ 9223372036854775807)) :
    Calls Try.prog 7 #[.agg #[.slice a n c', .slice b m e'], .agg #[.int .i64 l0, .int .i64 l1, .int .i64 l2, .int .i64 l3, .int .i64 l4]] w fun v w' => v = .returned (.bool true) ∧ Below w.heap.size w w' := by
  by_cases hok : okT 6 (xs.take 8) (ys.take 8)
  · cases hl : vlF l0 l1 l2 l3 l4
    · exact gearRatios_b a b n c' m e' l0 l1 l2 l3 l4 xs ys w hx hy hc he hok hl
    · exact gearRatios_a a b n c' m e' l0 l1 l2 l3 l4 xs ys w hx hy hc he hok hl
  · cases hl : vlF l0 l1 l2 l3 l4
    · exact gearRatios_d a b n c' m e' l0 l1 l2 l3 l4 xs ys w hx hy hc he hok hl
    · exact gearRatios_c a b n c' m e' l0 l1 l2 l3 l4 xs ys w hx hy hc he hok hl

set_option maxRecDepth 100000 in
theorem gearRatios_lifted (os : Os) (started : os.Started) (H : Type) (enc : TypeId × Value → H) :
    ReturnsInHanded {} Try.checked os 7 .any (Rows.gearRatiosSpec.pre6 enc Try.prog Try.f7 Rows.gearRatiosRow.domain false) (Rows.gearRatiosSpec.post enc Try.prog Try.f7 false true false false) := by
  refine returnsInHanded_of_change (C := Try.checked) law_own started (by kernel_rfl) Try.func7
    (ChangeSpec.witness6 (enc := enc) (C := Try.checked) false ⟨#[], #[.agg #[.slice none 0 0, .slice none 0 0], .agg #[.int .i64 0, .int .i64 0, .int .i64 0, .int .i64 0, .int .i64 0]], []⟩ 8 (by kernel_rfl) (by kernel_rfl) (by kernel_rfl) (by kernel_rfl)) ?_
  intro W base args ds gs before hval0 hW hcnd _
  have hval : ∀ (j : Nat) t v, Try.f7.params[j]? = some t → args[j]? = some v → Value.okWide Try.prog W .any base t v := hval0
  have hW' := hW
  obtain ⟨p, q, hA0, hV, rfl, hfz, hnd⟩ := hW
  have hA : DataW.TrodAll enc Try.prog W 0 (fun _ => true) true Try.f7.params.toList args.toList ds p := hA0
  have hA1 := hA
  rw [Try.params7] at hA hval
  obtain ⟨v0, vs0, d0, ds0, p0, q0, hargs, rfl, rfl, h0, r0⟩ := trodAll_cons hA
  obtain ⟨v1, vs1, d1, ds1, p1, q1, rfl, rfl, rfl, h1, r1⟩ := trodAll_cons r0
  obtain ⟨rfl, rfl, rfl⟩ := trodAll_nil r1
  obtain rfl : args = #[v0, v1] := by cases args; simp_all
  obtain ⟨rfl, rfl⟩ := trodVars_none hV
  obtain ⟨f0a, f0b, y0a, y0b, nn0, rfl, _, _, k0a, k0b⟩ := Joins.open_agg2 Try.underlying52 (by kernel_rfl) (by kernel_rfl) (hval 0 _ _ rfl rfl) h0
  obtain ⟨a0, n0, c0, xs0, rfl, hc0, hx0⟩ := rd_came k0a
  obtain ⟨b0, m0, e0, ys0, rfl, he0, hy0⟩ := rd_came k0b
  obtain ⟨l10, l11, l12, l13, l14, rfl, bd1⟩ := teeth_came (hval 1 _ _ rfl rfl) h1
  simp only [List.append_nil] at hW' hA1
  refine (gearRatios_walk a0 b0 n0 c0 m0 e0 xs0 ys0 l10 l11 l12 l13 l14 W hx0 hy0 hc0 he0 bd1 ).mono fun e W' ⟨he, hb⟩ => ?_
  subst he
  exact ⟨_, rfl, law_post hW' hA1 hb rfl (by kernel_rfl) rfl rfl⟩

/-- The statement. -/
theorem gearRatios_holds : Rows.GearRatiosSaid :=
  OpenClaim.holds_of_wide 7 Try.f7 rfl rfl rfl rfl rfl rfl rfl ⟨rfl, rfl, rfl, rfl, rfl⟩ rfl rfl rfl rfl rfl (by kernel_rfl) Try.func7 (by kernel_rfl)
    (of_decide_eq_true (by kernel_rfl)) (by unfold Func.isWrapper; first | (rw [if_pos (by decide +kernel)]; kernel_rfl) | (rw [if_neg (by decide +kernel)]; exact ⟨rfl, rfl⟩))
    (fun os started H enc _ => gearRatios_lifted os started H enc)
#print axioms gearRatios_holds
end Go.Proofs.Ytoenimkgagndnaa
