/- GearTrains returns true for every input: the ratio of a train is the product of the ratios of its stages, and turned round it is the reciprocal. No condition. -/
import Derived.Test.YtmigddempeecoaaGTrains
import Derived.Test.YtmigddempeecoaaLaw
namespace Go.Proofs.Ytmigddempeecoaa
set_option linter.unusedVariables false
set_option linter.unusedSimpArgs false
open Go.ChangeShapes Go.WideShapes Go.ChangeAt Go.RowKit

set_option maxHeartbeats 2000000 in
set_option maxRecDepth 100000 in
theorem gearTrains_bad (a b : Option Addr) (n c' m e' : Nat) (xs ys : List Int) (w : World) (hx : Rd w (.slice a n c') xs) (hy : Rd w (.slice b m e') ys) (hc : c' ≤ maxLen) (he : e' ≤ maxLen) (hok : ¬ okT 6 (xs.take 8) (ys.take 8)) :
    Calls Try.prog 16 #[.agg #[.slice a n c', .slice b m e']] w fun v w' => v = .returned (.bool true) ∧ Below w.heap.size w w' := by
  have HFew := few_any a b n c' m e' xs ys
  have HF := fun W h1 h2 => Lib.hid (HFew W h1 h2 hc he)
  clear HFew
  have l1 : (xs.take 8).length ≤ 8 := List.length_take_le _ _
  have l2 : (ys.take 8).length ≤ 8 := List.length_take_le _ _
  generalize xs.take 8 = us at *
  generalize ys.take 8 = vs at *
  have hr : ratV us vs = .tuple #[.agg #[.int .i64 0, .int .i64 0], .int .i64 1] := if_neg hok
  obtain ⟨N, hN⟩ : ∃ N, us.length = N := ⟨_, rfl⟩
  obtain ⟨M, hM⟩ : ∃ M, vs.length = M := ⟨_, rfl⟩
  rw [hN] at l1
  rw [hM] at l2
  have HF2 := fun W h1 h2 => Lib.hid (HF W h1 h2).out
  simp only [hN, hM] at HF2
  have HRg := fun a c b e W h1 h2 => Lib.hid (ratioF_any a b N c M e us vs W h1 h2 (by omega) (by omega))
  rw [hr] at HRg
  have HX := Lib.hid hx
  have HY := Lib.hid hy
  clear HF hr hok hN hM hx hy
  go_enter Try.func16, Try.ntmps16
  go_wp2_with (first
    | (go_at_call 32; refine (HF2 _ (HX.out.below (by (repeat (first | with_reducible exact Below.refl _ _ | with_reducible refine bl_alloc ?_ _ | with_reducible refine bl_drew ?_ | with_reducible refine bl_drewN ?_ _ | ((with_reducible refine bl_set ?_ ?_ _); (focus (dsimp only; omega))))))) (HY.out.below (by (repeat (first | with_reducible exact Below.refl _ _ | with_reducible refine bl_alloc ?_ _ | with_reducible refine bl_drew ?_ | with_reducible refine bl_drewN ?_ _ | ((with_reducible refine bl_set ?_ ?_ _); (focus (dsimp only; omega)))))))).out.mono ?_; rintro v w1 ⟨a1, c, b1, e, rfl, hu1, hv1, hb1⟩; have RU := Lib.hid hu1.out.rd; have RV := Lib.hid hv1.out.rd; clear hu1 hv1; have hB1 : Below w.heap.size w w1 := (by (repeat (first | with_reducible exact Below.refl _ _ | with_reducible refine bl_alloc ?_ _ | with_reducible refine bl_drew ?_ | with_reducible refine bl_drewN ?_ _ | ((with_reducible refine bl_set ?_ ?_ _); (focus (dsimp only; omega))) | with_reducible refine bl_call ?_ hb1))))
    | (go_at_call 33; refine (HRg _ _ _ _ _ (RU.out.below (by (repeat (first | with_reducible exact Below.refl _ _ | with_reducible refine bl_alloc ?_ _ | with_reducible refine bl_drew ?_ | with_reducible refine bl_drewN ?_ _ | ((with_reducible refine bl_set ?_ ?_ _); (focus (dsimp only; omega))))))) (RV.out.below (by (repeat (first | with_reducible exact Below.refl _ _ | with_reducible refine bl_alloc ?_ _ | with_reducible refine bl_drew ?_ | with_reducible refine bl_drewN ?_ _ | ((with_reducible refine bl_set ?_ ?_ _); (focus (dsimp only; omega)))))))).out.mono ?_; rintro v w2 ⟨rfl, hk2⟩; have hb2 := hk2.below; have hB2 : Below w.heap.size w w2 := (by (repeat (first | with_reducible exact hB1 | with_reducible exact Below.refl _ _ | with_reducible refine bl_alloc ?_ _ | with_reducible refine bl_drew ?_ | with_reducible refine bl_drewN ?_ _ | ((with_reducible refine bl_set ?_ ?_ _); (focus (dsimp only; omega))) | with_reducible refine bl_call ?_ hb2))))
    | (go_at_call 23; refine (lives_any _).mono ?_; rintro e w8 ⟨rfl, hb8⟩))
  go_ret
  exact ⟨rfl, by (repeat (first | with_reducible exact hB2 | with_reducible exact Below.refl _ _ | with_reducible refine bl_alloc ?_ _ | with_reducible refine bl_drew ?_ | with_reducible refine bl_drewN ?_ _ | ((with_reducible refine bl_set ?_ ?_ _); (focus (dsimp only; omega))) | with_reducible refine bl_call ?_ hb8))⟩

/-- A slice of integers that came in. -/
theorem rd_came {H : Type} {enc : TypeId × Value → H} {W : World} {n : Nat} {v : Value} {y : DataW H × List MemPlace} (h : DataW.trod enc Try.prog W 0 (fun _ => true) true n 35 [v] = some y) :
    ∃ a l c xs, v = .slice a l c ∧ c ≤ maxLen ∧ Rd W (.slice a l c) xs := by
  rcases open_ints Try.underlying35 Try.underlying3 (by kernel_rfl) h with ⟨h1, _⟩ | ⟨a, len, cap, zs, h1, _, hl, hc, hz, _, hcell, _⟩
  · simp only [List.cons.injEq, and_true] at h1
    exact ⟨none, 0, 0, [], h1, Nat.zero_le _, ⟨none, 0, rfl, Nat.le_refl _, .inl rfl⟩⟩
  · simp only [List.cons.injEq, and_true] at h1
    simp only [if_true] at hz
    have hlen : (zs.take len).length = len := by rw [List.length_take, hz]; omega
    refine ⟨some a, len, cap, zs.take len, h1, hc, ⟨some a, cap, by rw [hlen], by omega, ?_⟩⟩
    by_cases h0 : len = 0
    · exact .inl (by subst h0; simp)
    · obtain ⟨g, o, sp⟩ := a
      have hsp : sp = none := by
        have := hcell 0 (by omega)
        cases sp with
        | none => rfl
        | some s =>
          simp [Addr.add, World.cell?] at this
          split at this <;> cases this
      subst hsp
      refine .inr ⟨g, o, rfl, fun i hi => ?_⟩
      rw [hlen] at hi
      have := hcell i (by omega)
      rw [Addr.add_lit] at this
      rw [this]
      simp [List.getElem?_take, hi]

theorem gearTrains_walk (a b : Option Addr) (n c' m e' : Nat) (xs ys : List Int) (w : World) (hx : Rd w (.slice a n c') xs) (hy : Rd w (.slice b m e') ys) (hc : c' ≤ maxLen) (he : e' ≤ maxLen) :
    Calls Try.prog 16 #[.agg #[.slice a n c', .slice b m e']] w fun v w' => v = .returned (.bool true) ∧ Below w.heap.size w w' := by
  by_cases hok : okT 6 (xs.take 8) (ys.take 8)
  · exact gearTrains_good a b n c' m e' xs ys w hx hy hc he hok
  · exact gearTrains_bad a b n c' m e' xs ys w hx hy hc he hok

set_option maxRecDepth 100000 in
theorem gearTrains_lifted (os : Os) (started : os.Started) (H : Type) (enc : TypeId × Value → H) :
    ReturnsInHanded {} Try.checked os 16 .any (Rows.gearTrainsSpec.pre6 enc Try.prog Try.f16 Rows.gearTrainsRow.domain false) (Rows.gearTrainsSpec.post enc Try.prog Try.f16 false true false false) := by
  refine returnsInHanded_of_change (C := Try.checked) law_own started (by kernel_rfl) Try.func16
    (ChangeSpec.witness6 (enc := enc) (C := Try.checked) false ⟨#[], #[.agg #[.slice none 0 0, .slice none 0 0]], []⟩ 8 (by kernel_rfl) (by kernel_rfl) (by kernel_rfl) (by kernel_rfl)) ?_
  intro W base args ds gs before hval0 hW hcnd _
  have hval : ∀ (j : Nat) t v, Try.f16.params[j]? = some t → args[j]? = some v → Value.okWide Try.prog W .any base t v := hval0
  have hW' := hW
  obtain ⟨p, q, hA0, hV, rfl, hfz, hnd⟩ := hW
  have hA : DataW.TrodAll enc Try.prog W 0 (fun _ => true) true Try.f16.params.toList args.toList ds p := hA0
  have hA1 := hA
  rw [Try.params16] at hA hval
  obtain ⟨v0, vs0, d0, ds0, p0, q0, hargs, rfl, rfl, h0, r0⟩ := trodAll_cons hA
  obtain ⟨rfl, rfl, rfl⟩ := trodAll_nil r0
  obtain rfl : args = #[v0] := by cases args; simp_all
  obtain ⟨rfl, rfl⟩ := trodVars_none hV
  obtain ⟨u0, u1, y0, y1, nn, rfl, _, _, k0, k1⟩ := Joins.open_agg2 Try.underlying52 (by kernel_rfl) (by kernel_rfl) (hval 0 _ _ rfl rfl) h0
  obtain ⟨a, n, c, xs, rfl, hc, hx⟩ := rd_came k0
  obtain ⟨b, m, e, ys, rfl, he, hy⟩ := rd_came k1
  simp only [List.append_nil] at hW' hA1
  refine (gearTrains_walk a b n c m e xs ys W hx hy hc he).mono fun e W' ⟨he, hb⟩ => ?_
  subst he
  exact ⟨_, rfl, law_post hW' hA1 hb rfl (by kernel_rfl) rfl rfl⟩

/-- The statement. -/
theorem gearTrains_holds : Rows.GearTrainsSaid :=
  OpenClaim.holds_of_wide 16 Try.f16 rfl rfl rfl rfl rfl rfl rfl ⟨rfl, rfl, rfl, rfl, rfl⟩ rfl rfl rfl rfl rfl (by kernel_rfl) Try.func16 (by kernel_rfl)
    (of_decide_eq_true (by kernel_rfl)) (by unfold Func.isWrapper; first | (rw [if_pos (by decide +kernel)]; kernel_rfl) | (rw [if_neg (by decide +kernel)]; exact ⟨rfl, rfl⟩))
    (fun os started H enc _ => gearTrains_lifted os started H enc)
#print axioms gearTrains_holds
end Go.Proofs.Ytmigddempeecoaa
