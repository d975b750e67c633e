/- GearSimplest returns true for every input: no fraction within the bounds has a lesser denominator than Between's, none with that denominator a lesser absolute value; it lies within them. No condition. -/
import Derived.Test.YtmigddempeecoaaNg
namespace Go.Proofs.Ytmigddempeecoaa
set_option linter.unusedVariables false
set_option linter.unusedSimpArgs false
open Go.ChangeShapes Go.WideShapes Go.ChangeAt Go.RowKit Go.Lib Go.Dig

set_option maxRecDepth 100000 in
theorem gearSimplest_lifted (os : Os) (started : os.Started) (H : Type) (enc : TypeId × Value → H) :
    ReturnsInHanded {} Try.checked os 10 .any (Rows.gearSimplestSpec.pre6 enc Try.prog Try.f10 Rows.gearSimplestRow.domain false) (Rows.gearSimplestSpec.post enc Try.prog Try.f10 false true false false) := by
  refine returnsInHanded_of_change (C := Try.checked) law_own started (by kernel_rfl) Try.func10
    (ChangeSpec.witness6 (enc := enc) (C := Try.checked) false ⟨#[], #[.agg #[.int .i64 0, .int .i64 0], .agg #[.int .i64 0, .int .i64 0], .agg #[.int .i64 0, .int .i64 0]], []⟩ 8 (by kernel_rfl) (by kernel_rfl) (by kernel_rfl) (by kernel_rfl)) ?_
  intro W base args ds gs before hval0 hW hcnd _
  have hval : ∀ (j : Nat) t v, Try.f10.params[j]? = some t → args[j]? = some v → Value.okWide Try.prog W .any base t v := hval0
  have hW' := hW
  obtain ⟨p, q, hA0, hV, rfl, hfz, hnd⟩ := hW
  have hA : DataW.TrodAll enc Try.prog W 0 (fun _ => true) true Try.f10.params.toList args.toList ds p := hA0
  have hA1 := hA
  rw [Try.params10] at hA hval
  obtain ⟨v0, vs0, d0, ds0, p0, q0, hargs, rfl, rfl, h0, r0⟩ := trodAll_cons hA
  obtain ⟨v1, vs1, d1, ds1, p1, q1, rfl, rfl, rfl, h1, r1⟩ := trodAll_cons r0
  obtain ⟨v2, vs2, d2, ds2, p2, q2, rfl, rfl, rfl, h2, r2⟩ := trodAll_cons r1
  obtain ⟨rfl, rfl, rfl⟩ := trodAll_nil r2
  obtain rfl : args = #[v0, v1, v2] := by cases args; simp_all
  obtain ⟨rfl, rfl⟩ := trodVars_none hV
  obtain ⟨f0a, f0b, y0a, y0b, nn0, rfl, _, _, k0a, k0b⟩ := Joins.open_agg2 Try.underlying23 (by kernel_rfl) (by kernel_rfl) (hval 0 _ _ rfl rfl) h0
  obtain ⟨a0, rfl, w0⟩ := int_came k0a
  obtain ⟨b0, rfl, z0⟩ := int_came k0b
  obtain ⟨f1a, f1b, y1a, y1b, nn1, rfl, _, _, k1a, k1b⟩ := Joins.open_agg2 Try.underlying23 (by kernel_rfl) (by kernel_rfl) (hval 1 _ _ rfl rfl) h1
  obtain ⟨a1, rfl, w1⟩ := int_came k1a
  obtain ⟨b1, rfl, z1⟩ := int_came k1b
  obtain ⟨f2a, f2b, y2a, y2b, nn2, rfl, _, _, k2a, k2b⟩ := Joins.open_agg2 Try.underlying23 (by kernel_rfl) (by kernel_rfl) (hval 2 _ _ rfl rfl) h2
  obtain ⟨a2, rfl, w2⟩ := int_came k2a
  obtain ⟨b2, rfl, z2⟩ := int_came k2b
  simp only [List.append_nil] at hW' hA1
  refine (gearSimplest_walk a0 b0 a1 b1 a2 b2 (wf_bd w0) (wf_bd z0) (wf_bd w1) (wf_bd z1) (wf_bd w2) (wf_bd z2) W).mono fun e W' ⟨he, hb⟩ => ?_
  subst he
  exact ⟨_, rfl, law_post hW' hA1 hb rfl (by kernel_rfl) rfl rfl⟩

/-- The statement. -/
theorem gearSimplest_holds : Rows.GearSimplestSaid :=
  OpenClaim.holds_of_wide 10 Try.f10 rfl rfl rfl rfl rfl rfl rfl ⟨rfl, rfl, rfl, rfl, rfl⟩ rfl rfl rfl rfl rfl (by kernel_rfl) Try.func10 (by kernel_rfl)
    (of_decide_eq_true (by kernel_rfl)) (by unfold Func.isWrapper; first | (rw [if_pos (by decide +kernel)]; kernel_rfl) | (rw [if_neg (by decide +kernel)]; exact ⟨rfl, rfl⟩))
    (fun os started H enc _ => gearSimplest_lifted os started H enc)
#print axioms gearSimplest_holds
end Go.Proofs.Ytmigddempeecoaa
