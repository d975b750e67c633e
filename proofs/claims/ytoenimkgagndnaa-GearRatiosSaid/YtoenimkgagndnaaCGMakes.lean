/- GearMakes returns true for every input: Make returns num/den in lowest terms, or the error that the document names, for all integers; Check finds which fractions are valid. No condition. -/
import Derived.Test.YtoenimkgagndnaaGh
import Derived.Test.YtoenimkgagndnaaCCame
namespace Go.Proofs.Ytoenimkgagndnaa
set_option linter.unusedVariables false
set_option linter.unusedSimpArgs false
open Go.ChangeShapes Go.WideShapes Go.ChangeAt Go.RowKit

theorem makeG_any (num den : Int) (w : World) (hn : -9223372036854775808 ≤ num) (hn' : num ≤ 9223372036854775807) (hd : -9223372036854775808 ≤ den) (hd' : den ≤ 9223372036854775807) :
    Calls Try.prog 17 #[.int .i64 num, .int .i64 den] w fun v w' => v = .returned (mkV num den) ∧ Gro w w' := by
  by_cases h0 : den = 0
  · refine (make_any num den w hn hn' hd hd').mono ?_
    rintro v w' ⟨hg, hm⟩
    refine ⟨?_, hg⟩
    rcases hm with ⟨_, h⟩ | ⟨h, _⟩
    · rw [h]
      unfold mkV
      rw [if_pos h0]
    · exact absurd h0 h
  · refine (make_red num den w hn hn' hd hd' h0).mono ?_
    rintro v w' ⟨h, hg⟩
    refine ⟨?_, hg⟩
    rw [h]
    unfold mkV
    rw [if_neg h0]
theorem mkV_form (num den : Int) : ∃ u v c : Int, mkV num den = .tuple #[.agg #[.int .i64 u, .int .i64 v], .int .i64 c] := by
  unfold mkV
  split
  · exact ⟨0, 0, 4, rfl⟩
  · exact red_form _ _ _
theorem is_same (u v c : Int) (w : World) : Calls Try.prog 19 #[.agg #[.int .i64 u, .int .i64 v], .int .i64 c, .agg #[.int .i64 u, .int .i64 v], .int .i64 c] w fun e w' => e = .returned (.bool true) ∧ Gro w w' := by
  go_enter Try.func19, Try.ntmps19
  go_wp2_with fail
  go_ret
  exact ⟨rfl, by (with_reducible repeat (first | exact gro_refl _ | refine gro_alloc ?_ _ | refine gro_drew ?_ | refine gro_drewN ?_ _ | (refine gro_set ?_ ?_ _; (focus first | omega | (dsimp only; omega)))))⟩
theorem form_any (b : Bool) (w : World) : Calls Try.prog 21 #[.bool b] w fun e w' => e = .returned (.int .i64 (if b = true then 0 else 2)) ∧ Gro w w' := by
  cases b
  all_goals
    go_enter Try.func21, Try.ntmps21
    go_wp2_with fail
    go_ret
    exact ⟨rfl, by (with_reducible repeat (first | exact gro_refl _ | refine gro_alloc ?_ _ | refine gro_drew ?_ | refine gro_drewN ?_ _ | (refine gro_set ?_ ?_ _; (focus first | omega | (dsimp only; omega)))))⟩

set_option maxHeartbeats 2000000 in
set_option maxRecDepth 100000 in
theorem gearMakes_walk (num den : Int) (hn : -9223372036854775808 ≤ num ∧ num ≤ 9223372036854775807) (hd : -9223372036854775808 ≤ den ∧ den ≤ 9223372036854775807) (w : World) :
    Calls Try.prog 3 #[.int .i64 num, .int .i64 den] w fun e w' => e = .returned (.bool true) ∧ Below w.heap.size w w' := by
  have HG := fun W => Lib.hid (makeG_any num den W hn.1 hn.2 hd.1 hd.2)
  have HR := fun W => Lib.hid (makeR_any num den W hn.1 hn.2 hd.1 hd.2)
  have HC := fun W => Lib.hid (check_any num den W hn.1 hn.2 hd.1 hd.2)
  have HV := fun W => Lib.hid (valid_any num den W)
  have HF := fun W => Lib.hid (form_any (decide (okF num den)) W)
  have e0 : (if decide (okF num den) = true then (0 : Int) else 2) = ckF num den := by unfold ckF; by_cases h : okF num den <;> simp [h]
  simp only [e0] at HF
  obtain ⟨u, v, c, hE⟩ := mkV_form num den
  simp only [hE] at HG HR
  clear hE e0 hn hd
  generalize ckF num den = ck at *
  generalize decide (okF num den) = vb at *
  go_enter Try.func3, Try.ntmps3
  go_wp2_with (first
    | (go_at_call 17; ((with_reducible refine (HG _).out.mono ?_); rintro e w1 ⟨rfl, hk1⟩; have hb1 := hk1.below; have hB : Below w.heap.size w w1 := (by (with_reducible repeat (first | exact Below.refl _ _ | refine bl_alloc ?_ _ | refine bl_drew ?_ | refine bl_drewN ?_ _ | (refine bl_set ?_ ?_ _; (focus dsimp only; omega)) | refine bl_call ?_ hb1)))))
    | (go_at_call 18; ((with_reducible refine (HR _).out.mono ?_); rintro e w2 ⟨rfl, hb2⟩; have hB : Below w.heap.size w w2 := (by (with_reducible repeat (first | exact hB | exact Below.refl _ _ | refine bl_alloc ?_ _ | refine bl_drew ?_ | refine bl_drewN ?_ _ | (refine bl_set ?_ ?_ _; (focus dsimp only; omega)) | refine bl_call ?_ hb2))); have k0 : w2.cell? ⟨w1.heap.size, 0, none⟩ = some (.int .i64 u) := (by (with_reducible repeat (first | refine kc_drew ?_ | refine kc_drewN _ ?_ | refine kc_below hb2 ?_ | (refine kc_new ?_ ?_; (focus first | rfl | (simp only [World.size_alloc, World.size_setCell, World.size_drew, size_drewN]; done)); (focus first | rfl | (simp; done))) | (refine kc_set0 ?_ ?_; (focus first | rfl | (simp; done))) | exact ct_of (by assumption) | refine ct_drew ?_ | refine ct_drewN _ ?_ | refine ct_below hb2 ?_ | (refine ct_new ?_ ?_; (focus first | rfl | (simp only [World.size_alloc, World.size_setCell, World.size_drew, size_drewN]; done)); (focus first | rfl | (simp; done))) | refine ct_set _ _ ?_ | refine ct_alloc _ ?_ | (refine kc_set ?_ ?_; (focus first | (intro hx; injection hx; omega) | (simp; done))) | refine kc_alloc _ ?_))); have k1 : w2.cell? ⟨w1.heap.size, 1, none⟩ = some (.int .i64 v) := (by (with_reducible repeat (first | refine kc_drew ?_ | refine kc_drewN _ ?_ | refine kc_below hb2 ?_ | (refine kc_new ?_ ?_; (focus first | rfl | (simp only [World.size_alloc, World.size_setCell, World.size_drew, size_drewN]; done)); (focus first | rfl | (simp; done))) | (refine kc_set0 ?_ ?_; (focus first | rfl | (simp; done))) | exact ct_of (by assumption) | refine ct_drew ?_ | refine ct_drewN _ ?_ | refine ct_below hb2 ?_ | (refine ct_new ?_ ?_; (focus first | rfl | (simp only [World.size_alloc, World.size_setCell, World.size_drew, size_drewN]; done)); (focus first | rfl | (simp; done))) | refine ct_set _ _ ?_ | refine ct_alloc _ ?_ | (refine kc_set ?_ ?_; (focus first | (intro hx; injection hx; omega) | (simp; done))) | refine kc_alloc _ ?_))); have g1 : w1.heap.size < w2.heap.size := (by have := hb2.size; (try simp only [World.size_alloc, World.size_drew] at this); omega))))
  go_region_held3 (fun w' => (w'.cell? ⟨w1.heap.size, 0, none⟩ = some (.int .i64 u) ∧ w'.cell? ⟨w1.heap.size, 1, none⟩ = some (.int .i64 v)) ∧ (w'.cell? ⟨w2.heap.size, 0, none⟩ = some (.int .i64 u) ∧ w'.cell? ⟨w2.heap.size, 1, none⟩ = some (.int .i64 v)) ∧ w'.cell? ⟨w2.heap.size + 1, 0, none⟩ = some (.int .i64 num) ∧ w'.cell? ⟨w2.heap.size + 1, 1, none⟩ = some (.int .i64 den)) (((try dsimp only); (repeat' apply And.intro)) <;> (with_reducible repeat (first | exact r0 | exact r1 | exact r2 | exact r3 | exact r4 | exact r5 | exact k0 | exact k1 | refine kc_drew ?_ | refine kc_drewN _ ?_ | refine kc_below hb7 ?_ | refine kc_below hb6 ?_ | refine kc_below hb5 ?_ | refine kc_below hb4 ?_ | refine kc_below hb3 ?_ | (refine kc_new ?_ ?_; (focus first | rfl | (simp only [World.size_alloc, World.size_setCell, World.size_drew, size_drewN]; done)); (focus first | rfl | (simp; done))) | (refine kc_set0 ?_ ?_; (focus first | rfl | (simp; done))) | exact ct_of (by assumption) | refine ct_drew ?_ | refine ct_drewN _ ?_ | refine ct_below hb7 ?_ | refine ct_below hb6 ?_ | refine ct_below hb5 ?_ | refine ct_below hb4 ?_ | refine ct_below hb3 ?_ | (refine ct_new ?_ ?_; (focus first | rfl | (simp only [World.size_alloc, World.size_setCell, World.size_drew, size_drewN]; done)); (focus first | rfl | (simp; done))) | refine ct_set _ _ ?_ | refine ct_alloc _ ?_ | (refine kc_set ?_ ?_; (focus first | (intro hx; injection hx; omega) | (simp; done))) | refine kc_alloc _ ?_))) (first
    | (go_at_call 19; refine (is_same u v c _).mono ?_; rintro e w3 ⟨rfl, hk3⟩; have hb3 := hk3.below; have ⟨r0, r1, r2, r3, r4, r5⟩ : w3.cell? ⟨w1.heap.size, 0, none⟩ = some (.int .i64 u) ∧ w3.cell? ⟨w1.heap.size, 1, none⟩ = some (.int .i64 v) ∧ w3.cell? ⟨w2.heap.size, 0, none⟩ = some (.int .i64 u) ∧ w3.cell? ⟨w2.heap.size, 1, none⟩ = some (.int .i64 v) ∧ w3.cell? ⟨w2.heap.size + 1, 0, none⟩ = some (.int .i64 num) ∧ w3.cell? ⟨w2.heap.size + 1, 1, none⟩ = some (.int .i64 den) := (by and_intros <;> (with_reducible repeat (first | exact r0 | exact r1 | exact r2 | exact r3 | exact r4 | exact r5 | exact k0 | exact k1 | refine kc_drew ?_ | refine kc_drewN _ ?_ | refine kc_below hb3 ?_ | (refine kc_new ?_ ?_; (focus first | rfl | (simp only [World.size_alloc, World.size_setCell, World.size_drew, size_drewN]; done)); (focus first | rfl | (simp; done))) | (refine kc_set0 ?_ ?_; (focus first | rfl | (simp; done))) | exact ct_of (by assumption) | refine ct_drew ?_ | refine ct_drewN _ ?_ | refine ct_below hb3 ?_ | (refine ct_new ?_ ?_; (focus first | rfl | (simp only [World.size_alloc, World.size_setCell, World.size_drew, size_drewN]; done)); (focus first | rfl | (simp; done))) | refine ct_set _ _ ?_ | refine ct_alloc _ ?_ | (refine kc_set ?_ ?_; (focus first | (intro hx; injection hx; omega) | (simp; done))) | refine kc_alloc _ ?_))); have hB : Below w.heap.size w w3 := (by (with_reducible repeat (first | exact hB | exact Below.refl _ _ | refine bl_alloc ?_ _ | refine bl_drew ?_ | refine bl_drewN ?_ _ | (refine bl_set ?_ ?_ _; (focus dsimp only; omega)) | refine bl_call ?_ hb3))))
    | (go_at_call 20; ((with_reducible refine (HC _).out.mono ?_); rintro e w4 ⟨rfl, hk4⟩; have hb4 := hk4.below; have ⟨r0, r1, r2, r3, r4, r5⟩ : w4.cell? ⟨w1.heap.size, 0, none⟩ = some (.int .i64 u) ∧ w4.cell? ⟨w1.heap.size, 1, none⟩ = some (.int .i64 v) ∧ w4.cell? ⟨w2.heap.size, 0, none⟩ = some (.int .i64 u) ∧ w4.cell? ⟨w2.heap.size, 1, none⟩ = some (.int .i64 v) ∧ w4.cell? ⟨w2.heap.size + 1, 0, none⟩ = some (.int .i64 num) ∧ w4.cell? ⟨w2.heap.size + 1, 1, none⟩ = some (.int .i64 den) := (by and_intros <;> (with_reducible repeat (first | exact r0 | exact r1 | exact r2 | exact r3 | exact r4 | exact r5 | exact k0 | exact k1 | refine kc_drew ?_ | refine kc_drewN _ ?_ | refine kc_below hb4 ?_ | (refine kc_new ?_ ?_; (focus first | rfl | (simp only [World.size_alloc, World.size_setCell, World.size_drew, size_drewN]; done)); (focus first | rfl | (simp; done))) | (refine kc_set0 ?_ ?_; (focus first | rfl | (simp; done))) | exact ct_of (by assumption) | refine ct_drew ?_ | refine ct_drewN _ ?_ | refine ct_below hb4 ?_ | (refine ct_new ?_ ?_; (focus first | rfl | (simp only [World.size_alloc, World.size_setCell, World.size_drew, size_drewN]; done)); (focus first | rfl | (simp; done))) | refine ct_set _ _ ?_ | refine ct_alloc _ ?_ | (refine kc_set ?_ ?_; (focus first | (intro hx; injection hx; omega) | (simp; done))) | refine kc_alloc _ ?_))); have hB : Below w.heap.size w w4 := (by (with_reducible repeat (first | exact hB | exact Below.refl _ _ | refine bl_alloc ?_ _ | refine bl_drew ?_ | refine bl_drewN ?_ _ | (refine bl_set ?_ ?_ _; (focus dsimp only; omega)) | refine bl_call ?_ hb4)))))
    | (go_at_call 22; ((with_reducible refine (HV _).out.mono ?_); rintro e w5 ⟨rfl, hb5⟩; have ⟨r0, r1, r2, r3, r4, r5⟩ : w5.cell? ⟨w1.heap.size, 0, none⟩ = some (.int .i64 u) ∧ w5.cell? ⟨w1.heap.size, 1, none⟩ = some (.int .i64 v) ∧ w5.cell? ⟨w2.heap.size, 0, none⟩ = some (.int .i64 u) ∧ w5.cell? ⟨w2.heap.size, 1, none⟩ = some (.int .i64 v) ∧ w5.cell? ⟨w2.heap.size + 1, 0, none⟩ = some (.int .i64 num) ∧ w5.cell? ⟨w2.heap.size + 1, 1, none⟩ = some (.int .i64 den) := (by and_intros <;> (with_reducible repeat (first | exact r0 | exact r1 | exact r2 | exact r3 | exact r4 | exact r5 | exact k0 | exact k1 | refine kc_drew ?_ | refine kc_drewN _ ?_ | refine kc_below hb5 ?_ | (refine kc_new ?_ ?_; (focus first | rfl | (simp only [World.size_alloc, World.size_setCell, World.size_drew, size_drewN]; done)); (focus first | rfl | (simp; done))) | (refine kc_set0 ?_ ?_; (focus first | rfl | (simp; done))) | exact ct_of (by assumption) | refine ct_drew ?_ | refine ct_drewN _ ?_ | refine ct_below hb5 ?_ | (refine ct_new ?_ ?_; (focus first | rfl | (simp only [World.size_alloc, World.size_setCell, World.size_drew, size_drewN]; done)); (focus first | rfl | (simp; done))) | refine ct_set _ _ ?_ | refine ct_alloc _ ?_ | (refine kc_set ?_ ?_; (focus first | (intro hx; injection hx; omega) | (simp; done))) | refine kc_alloc _ ?_))); have hB : Below w.heap.size w w5 := (by (with_reducible repeat (first | exact hB | exact Below.refl _ _ | refine bl_alloc ?_ _ | refine bl_drew ?_ | refine bl_drewN ?_ _ | (refine bl_set ?_ ?_ _; (focus dsimp only; omega)) | refine bl_call ?_ hb5)))))
    | (go_at_call 21; ((with_reducible refine (HF _).out.mono ?_); rintro e w6 ⟨rfl, hk6⟩; have hb6 := hk6.below; have ⟨r0, r1, r2, r3, r4, r5⟩ : w6.cell? ⟨w1.heap.size, 0, none⟩ = some (.int .i64 u) ∧ w6.cell? ⟨w1.heap.size, 1, none⟩ = some (.int .i64 v) ∧ w6.cell? ⟨w2.heap.size, 0, none⟩ = some (.int .i64 u) ∧ w6.cell? ⟨w2.heap.size, 1, none⟩ = some (.int .i64 v) ∧ w6.cell? ⟨w2.heap.size + 1, 0, none⟩ = some (.int .i64 num) ∧ w6.cell? ⟨w2.heap.size + 1, 1, none⟩ = some (.int .i64 den) := (by and_intros <;> (with_reducible repeat (first | exact r0 | exact r1 | exact r2 | exact r3 | exact r4 | exact r5 | exact k0 | exact k1 | refine kc_drew ?_ | refine kc_drewN _ ?_ | refine kc_below hb6 ?_ | (refine kc_new ?_ ?_; (focus first | rfl | (simp only [World.size_alloc, World.size_setCell, World.size_drew, size_drewN]; done)); (focus first | rfl | (simp; done))) | (refine kc_set0 ?_ ?_; (focus first | rfl | (simp; done))) | exact ct_of (by assumption) | refine ct_drew ?_ | refine ct_drewN _ ?_ | refine ct_below hb6 ?_ | (refine ct_new ?_ ?_; (focus first | rfl | (simp only [World.size_alloc, World.size_setCell, World.size_drew, size_drewN]; done)); (focus first | rfl | (simp; done))) | refine ct_set _ _ ?_ | refine ct_alloc _ ?_ | (refine kc_set ?_ ?_; (focus first | (intro hx; injection hx; omega) | (simp; done))) | refine kc_alloc _ ?_))); have hB : Below w.heap.size w w6 := (by (with_reducible repeat (first | exact hB | exact Below.refl _ _ | refine bl_alloc ?_ _ | refine bl_drew ?_ | refine bl_drewN ?_ _ | (refine bl_set ?_ ?_ _; (focus dsimp only; omega)) | refine bl_call ?_ hb6)))))
    | (go_at_call 23; refine (lives_any _).mono ?_; rintro e w7 ⟨rfl, hb7⟩; have ⟨r0, r1, r2, r3, r4, r5⟩ : w7.cell? ⟨w1.heap.size, 0, none⟩ = some (.int .i64 u) ∧ w7.cell? ⟨w1.heap.size, 1, none⟩ = some (.int .i64 v) ∧ w7.cell? ⟨w2.heap.size, 0, none⟩ = some (.int .i64 u) ∧ w7.cell? ⟨w2.heap.size, 1, none⟩ = some (.int .i64 v) ∧ w7.cell? ⟨w2.heap.size + 1, 0, none⟩ = some (.int .i64 num) ∧ w7.cell? ⟨w2.heap.size + 1, 1, none⟩ = some (.int .i64 den) := (by and_intros <;> (with_reducible repeat (first | exact r0 | exact r1 | exact r2 | exact r3 | exact r4 | exact r5 | exact k0 | exact k1 | refine kc_drew ?_ | refine kc_drewN _ ?_ | refine kc_below hb7 ?_ | (refine kc_new ?_ ?_; (focus first | rfl | (simp only [World.size_alloc, World.size_setCell, World.size_drew, size_drewN]; done)); (focus first | rfl | (simp; done))) | (refine kc_set0 ?_ ?_; (focus first | rfl | (simp; done))) | exact ct_of (by assumption) | refine ct_drew ?_ | refine ct_drewN _ ?_ | refine ct_below hb7 ?_ | (refine ct_new ?_ ?_; (focus first | rfl | (simp only [World.size_alloc, World.size_setCell, World.size_drew, size_drewN]; done)); (focus first | rfl | (simp; done))) | refine ct_set _ _ ?_ | refine ct_alloc _ ?_ | (refine kc_set ?_ ?_; (focus first | (intro hx; injection hx; omega) | (simp; done))) | refine kc_alloc _ ?_))); have hB : Below w.heap.size w w7 := (by (with_reducible repeat (first | exact hB | exact Below.refl _ _ | refine bl_alloc ?_ _ | refine bl_drew ?_ | refine bl_drewN ?_ _ | (refine bl_set ?_ ?_ _; (focus dsimp only; omega)) | refine bl_call ?_ hb7)))))
  all_goals go_wp2_with fail
  all_goals go_ret
  all_goals exact ⟨rfl, hB⟩

set_option maxRecDepth 100000 in
theorem gearMakes_lifted (os : Os) (started : os.Started) (H : Type) (enc : TypeId × Value → H) :
    ReturnsInHanded {} Try.checked os 3 .any (Rows.gearMakesSpec.pre6 enc Try.prog Try.f3 Rows.gearMakesRow.domain false) (Rows.gearMakesSpec.post enc Try.prog Try.f3 false true false false) := by
  refine returnsInHanded_of_change (C := Try.checked) law_own started (by kernel_rfl) Try.func3
    (ChangeSpec.witness6 (enc := enc) (C := Try.checked) false ⟨#[], #[.int .i64 0, .int .i64 0], []⟩ 8 (by kernel_rfl) (by kernel_rfl) (by kernel_rfl) (by kernel_rfl)) ?_
  intro W base args ds gs before hval0 hW hcnd _
  have hval : ∀ (j : Nat) t v, Try.f3.params[j]? = some t → args[j]? = some v → Value.okWide Try.prog W .any base t v := hval0
  have hW' := hW
  obtain ⟨p, q, hA0, hV, rfl, hfz, hnd⟩ := hW
  have hA : DataW.TrodAll enc Try.prog W 0 (fun _ => true) true Try.f3.params.toList args.toList ds p := hA0
  have hA1 := hA
  rw [Try.params3] at hA hval
  obtain ⟨v0, vs0, d0, ds0, p0, q0, hargs, rfl, rfl, h0, r0⟩ := trodAll_cons hA
  obtain ⟨v1, vs1, d1, ds1, p1, q1, rfl, rfl, rfl, h1, r1⟩ := trodAll_cons r0
  obtain ⟨rfl, rfl, rfl⟩ := trodAll_nil r1
  obtain rfl : args = #[v0, v1] := by cases args; simp_all
  obtain ⟨rfl, rfl⟩ := trodVars_none hV
  obtain ⟨a0, rfl, rfl, rfl, w0⟩ := open_int Try.underlying3 (hval 0 3 v0 rfl rfl) h0
  obtain ⟨a1, rfl, rfl, rfl, w1⟩ := open_int Try.underlying3 (hval 1 3 v1 rfl rfl) h1
  simp only [List.append_nil] at hW'
  refine (gearMakes_walk a0 a1  (wf_bd w0) (wf_bd w1) W).mono fun e W' ⟨he, hb⟩ => ?_
  subst he
  exact ⟨_, rfl, law_post hW' hA1 hb rfl (by kernel_rfl) rfl rfl⟩

/-- The statement. -/
theorem gearMakes_holds : Rows.GearMakesSaid :=
  OpenClaim.holds_of_wide 3 Try.f3 rfl rfl rfl rfl rfl rfl rfl ⟨rfl, rfl, rfl, rfl, rfl⟩ rfl rfl rfl rfl rfl (by kernel_rfl) Try.func3 (by kernel_rfl)
    (of_decide_eq_true (by kernel_rfl)) (by unfold Func.isWrapper; first | (rw [if_pos (by decide +kernel)]; kernel_rfl) | (rw [if_neg (by decide +kernel)]; exact ⟨rfl, rfl⟩))
    (fun os started H enc _ => gearMakes_lifted os started H enc)
#print axioms gearMakes_holds
end Go.Proofs.Ytoenimkgagndnaa
