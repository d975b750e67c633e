/- Texts that gearBest_holds reaches: RBetter, RFits. -/
import Derived.Test.YtoenimkgagndnaaBi
namespace Go.Proofs.Ytoenimkgagndnaa
set_option linter.unusedVariables false
set_option linter.unusedSimpArgs false
open Go.RowKit Go.Lib

/-- Whether the reference says that a train is better than another one. -/
def betterB (xs ys xs' ys' : List Int) : Bool :=
  if xs.length ≠ xs'.length then decide ((xs.length : Int) < (xs'.length : Int)) else if sumL xs + sumL ys ≠ sumL xs' + sumL ys' then decide (sumL xs + sumL ys < sumL xs' + sumL ys') else if firstF xs xs' ≠ 0 then decide (firstF xs xs' < 0) else decide (firstF ys ys' < 0)
theorem sumL_all {xs : List Int} (h : ∀ x ∈ xs, inT x) : 0 ≤ sumL xs ∧ sumL xs ≤ 200 * xs.length := by
  have := sumL_bd (xs := xs) (k := xs.length) (Nat.le_refl _) (all_getD.1 h)
  rwa [List.take_of_length_le (Nat.le_refl _)] at this

set_option maxHeartbeats 4000000 in
set_option maxRecDepth 100000 in
theorem refBetter_any (a b a' b' : Option Addr) (n c m e n' c' m' e' : Nat) (xs ys xs' ys' : List Int) (w : World) (h1 : Rd w (.slice a n c) xs) (h2 : Rd w (.slice b m e) ys) (h3 : Rd w (.slice a' n' c') xs') (h4 : Rd w (.slice b' m' e') ys') (k1 : n ≤ 100) (k2 : m ≤ 100) (k3 : n' ≤ 100) (k4 : m' ≤ 100) (i1 : ∀ x ∈ xs, inT x) (i2 : ∀ x ∈ ys, inT x) (i3 : ∀ x ∈ xs', inT x) (i4 : ∀ x ∈ ys', inT x) :
    Calls Try.prog 51 #[.agg #[.slice a n c, .slice b m e], .agg #[.slice a' n' c', .slice b' m' e']] w fun v w' => v = .returned (.bool (betterB xs ys xs' ys')) ∧ Below w.heap.size w w' := by
  have l1 := (rdl_len h1).1
  have l2 := (rdl_len h2).1
  have l3 := (rdl_len h3).1
  have l4 := (rdl_len h4).1
  have X1 : Hid (∀ W, Below w.heap.size w W → Rd W (.slice a n c) xs) := fun W hW => h1.below hW
  have X2 : Hid (∀ W, Below w.heap.size w W → Rd W (.slice b m e) ys) := fun W hW => h2.below hW
  have X3 : Hid (∀ W, Below w.heap.size w W → Rd W (.slice a' n' c') xs') := fun W hW => h3.below hW
  have X4 : Hid (∀ W, Below w.heap.size w W → Rd W (.slice b' m' e') ys') := fun W hW => h4.below hW
  have S1 := fun W g => Lib.hid (sum_any a n c xs W g (by omega) i1)
  have S2 := fun W g => Lib.hid (sum_any b m e ys W g (by omega) i2)
  have S3 := fun W g => Lib.hid (sum_any a' n' c' xs' W g (by omega) i3)
  have S4 := fun W g => Lib.hid (sum_any b' m' e' ys' W g (by omega) i4)
  have F1 := fun W g g' => Lib.hid (firstF_any a a' n c n' c' xs xs' W g g' (by omega) (by omega) i1 i3)
  have F2 := fun W g g' => Lib.hid (firstF_any b b' m e m' e' ys ys' W g g' (by omega) (by omega) i2 i4)
  have b1 := sumL_all i1
  have b2 := sumL_all i2
  have b3 := sumL_all i3
  have b4 := sumL_all i4
  rw [l1] at b1
  rw [l2] at b2
  rw [l3] at b3
  rw [l4] at b4
  obtain ⟨V, hV⟩ : ∃ V, V = betterB xs ys xs' ys' := ⟨_, rfl⟩
  rw [← hV]
  unfold betterB at hV
  rw [l1, l3] at hV
  generalize sumL xs = s1 at *
  generalize sumL ys = s2 at *
  generalize sumL xs' = s3 at *
  generalize sumL ys' = s4 at *
  generalize firstF xs xs' = f1 at *
  generalize firstF ys ys' = f2 at *
  have B1 : 0 ≤ s1 ∧ s1 ≤ 20000 := by omega
  have B2 : 0 ≤ s2 ∧ s2 ≤ 20000 := by omega
  have B3 : 0 ≤ s3 ∧ s3 ≤ 20000 := by omega
  have B4 : 0 ≤ s4 ∧ s4 ≤ 20000 := by omega
  obtain ⟨B1, B1'⟩ := B1
  obtain ⟨B2, B2'⟩ := B2
  obtain ⟨B3, B3'⟩ := B3
  obtain ⟨B4, B4'⟩ := B4
  have wA : IntKind.i64.wrap (s1 + s2) = s1 + s2 := IntWalk.i64_in _ (by omega)
  have wC : IntKind.i64.wrap (s3 + s4) = s3 + s4 := IntWalk.i64_in _ (by omega)
  clear h1 h2 h3 h4 l1 l2 l3 l4 b1 b2 b3 b4 i1 i2 i3 i4
  by_cases hn : n = n'
  · rw [if_neg (by simpa using hn)] at hV
    have t0 : ((n : Int) != (n' : Int)) = false := by rw [hn]; simp
    by_cases hs : s1 + s2 = s3 + s4
    · rw [if_neg (by simpa using hs)] at hV
      have t1 : (s1 + s2 != s3 + s4) = false := by simpa using hs
      by_cases hf : f1 = 0
      · subst hf
        rw [if_neg (by simp)] at hV
        subst hV
        clear hn hs
        go_enter Try.func51, Try.ntmps51
        go_wp2_with fail
        go_region_held3 (fun w' => (w'.cell? ⟨w.heap.size, 0, none⟩ = some (.slice a n c) ∧ w'.cell? ⟨w.heap.size, 1, none⟩ = some (.slice b m e)) ∧ w'.cell? ⟨w.heap.size + 1, 0, none⟩ = some (.slice a' n' c') ∧ w'.cell? ⟨w.heap.size + 1, 1, none⟩ = some (.slice b' m' e')) (((try dsimp only); (repeat' apply And.intro)) <;> (with_reducible repeat (first | exact r0 | exact r1 | exact r2 | exact r3 | refine kc_drew ?_ | refine kc_drewN _ ?_ | refine kc_below hb7 ?_ | refine kc_below hb6 ?_ | refine kc_below hb5 ?_ | refine kc_below hb4 ?_ | refine kc_below hb3 ?_ | refine kc_below hb2 ?_ | (refine kc_new ?_ ?_; (· first | rfl | simp only [sZ]); (· first | rfl | simp)) | (refine kc_set0 ?_ ?_; (· first | rfl | simp)) | exact ct_of (by assumption) | refine ct_drew ?_ | refine ct_drewN _ ?_ | refine ct_below hb7 ?_ | refine ct_below hb6 ?_ | refine ct_below hb5 ?_ | refine ct_below hb4 ?_ | refine ct_below hb3 ?_ | refine ct_below hb2 ?_ | (refine ct_new ?_ ?_; (· first | rfl | simp only [sZ]); (· first | rfl | simp)) | refine ct_set _ _ ?_ | refine ct_alloc _ ?_ | (refine kc_set ?_ ?_; (focus first | (intro hx; injection hx; omega) | (simp; done))) | refine kc_alloc _ ?_))) (first
      | (go_at_call_of 86 (Value.slice a n c); ((with_reducible refine (S1 _ (X1.out _ (by (with_reducible repeat (first | exact hB | exact bR | refine bA ?_ | refine bD ?_ | refine bN ?_ | (refine bS ?_ ?_; (· dsimp only; omega)) | refine bl_call ?_ hb7 | refine bl_call ?_ hb6 | refine bl_call ?_ hb5 | refine bl_call ?_ hb4 | refine bl_call ?_ hb3 | refine bl_call ?_ hb2))))).out.mono ?_); rintro v w2 ⟨rfl, hb2⟩; have ⟨r0, r1, r2, r3⟩ : w2.cell? ⟨w.heap.size, 0, none⟩ = some (.slice a n c) ∧ w2.cell? ⟨w.heap.size, 1, none⟩ = some (.slice b m e) ∧ w2.cell? ⟨w.heap.size + 1, 0, none⟩ = some (.slice a' n' c') ∧ w2.cell? ⟨w.heap.size + 1, 1, none⟩ = some (.slice b' m' e') := (by and_intros <;> (with_reducible repeat (first | exact r0 | exact r1 | exact r2 | exact r3 | refine kc_drew ?_ | refine kc_drewN _ ?_ | refine kc_below hb2 ?_ | (refine kc_new ?_ ?_; (· first | rfl | simp only [sZ]); (· first | rfl | simp)) | (refine kc_set0 ?_ ?_; (· first | rfl | simp)) | exact ct_of (by assumption) | refine ct_drew ?_ | refine ct_drewN _ ?_ | refine ct_below hb2 ?_ | (refine ct_new ?_ ?_; (· first | rfl | simp only [sZ]); (· first | rfl | simp)) | refine ct_set _ _ ?_ | refine ct_alloc _ ?_ | (refine kc_set ?_ ?_; (focus first | (intro hx; injection hx; omega) | (simp; done))) | refine kc_alloc _ ?_))); have hB : Below w.heap.size w w2 := (by (with_reducible repeat (first | exact hB | exact bR | refine bA ?_ | refine bD ?_ | refine bN ?_ | (refine bS ?_ ?_; (· dsimp only; omega)) | refine bl_call ?_ hb2)))))
      | (go_at_call_of 86 (Value.slice b m e); ((with_reducible refine (S2 _ (X2.out _ (by (with_reducible repeat (first | exact hB | exact bR | refine bA ?_ | refine bD ?_ | refine bN ?_ | (refine bS ?_ ?_; (· dsimp only; omega)) | refine bl_call ?_ hb7 | refine bl_call ?_ hb6 | refine bl_call ?_ hb5 | refine bl_call ?_ hb4 | refine bl_call ?_ hb3 | refine bl_call ?_ hb2))))).out.mono ?_); rintro v w3 ⟨rfl, hb3⟩; have ⟨r0, r1, r2, r3⟩ : w3.cell? ⟨w.heap.size, 0, none⟩ = some (.slice a n c) ∧ w3.cell? ⟨w.heap.size, 1, none⟩ = some (.slice b m e) ∧ w3.cell? ⟨w.heap.size + 1, 0, none⟩ = some (.slice a' n' c') ∧ w3.cell? ⟨w.heap.size + 1, 1, none⟩ = some (.slice b' m' e') := (by and_intros <;> (with_reducible repeat (first | exact r0 | exact r1 | exact r2 | exact r3 | refine kc_drew ?_ | refine kc_drewN _ ?_ | refine kc_below hb3 ?_ | (refine kc_new ?_ ?_; (· first | rfl | simp only [sZ]); (· first | rfl | simp)) | (refine kc_set0 ?_ ?_; (· first | rfl | simp)) | exact ct_of (by assumption) | refine ct_drew ?_ | refine ct_drewN _ ?_ | refine ct_below hb3 ?_ | (refine ct_new ?_ ?_; (· first | rfl | simp only [sZ]); (· first | rfl | simp)) | refine ct_set _ _ ?_ | refine ct_alloc _ ?_ | (refine kc_set ?_ ?_; (focus first | (intro hx; injection hx; omega) | (simp; done))) | refine kc_alloc _ ?_))); have hB : Below w.heap.size w w3 := (by (with_reducible repeat (first | exact hB | exact bR | refine bA ?_ | refine bD ?_ | refine bN ?_ | (refine bS ?_ ?_; (· dsimp only; omega)) | refine bl_call ?_ hb3)))))
      | (go_at_call_of 86 (Value.slice a' n' c'); ((with_reducible refine (S3 _ (X3.out _ (by (with_reducible repeat (first | exact hB | exact bR | refine bA ?_ | refine bD ?_ | refine bN ?_ | (refine bS ?_ ?_; (· dsimp only; omega)) | refine bl_call ?_ hb7 | refine bl_call ?_ hb6 | refine bl_call ?_ hb5 | refine bl_call ?_ hb4 | refine bl_call ?_ hb3 | refine bl_call ?_ hb2))))).out.mono ?_); rintro v w4 ⟨rfl, hb4⟩; have ⟨r0, r1, r2, r3⟩ : w4.cell? ⟨w.heap.size, 0, none⟩ = some (.slice a n c) ∧ w4.cell? ⟨w.heap.size, 1, none⟩ = some (.slice b m e) ∧ w4.cell? ⟨w.heap.size + 1, 0, none⟩ = some (.slice a' n' c') ∧ w4.cell? ⟨w.heap.size + 1, 1, none⟩ = some (.slice b' m' e') := (by and_intros <;> (with_reducible repeat (first | exact r0 | exact r1 | exact r2 | exact r3 | refine kc_drew ?_ | refine kc_drewN _ ?_ | refine kc_below hb4 ?_ | (refine kc_new ?_ ?_; (· first | rfl | simp only [sZ]); (· first | rfl | simp)) | (refine kc_set0 ?_ ?_; (· first | rfl | simp)) | exact ct_of (by assumption) | refine ct_drew ?_ | refine ct_drewN _ ?_ | refine ct_below hb4 ?_ | (refine ct_new ?_ ?_; (· first | rfl | simp only [sZ]); (· first | rfl | simp)) | refine ct_set _ _ ?_ | refine ct_alloc _ ?_ | (refine kc_set ?_ ?_; (focus first | (intro hx; injection hx; omega) | (simp; done))) | refine kc_alloc _ ?_))); have hB : Below w.heap.size w w4 := (by (with_reducible repeat (first | exact hB | exact bR | refine bA ?_ | refine bD ?_ | refine bN ?_ | (refine bS ?_ ?_; (· dsimp only; omega)) | refine bl_call ?_ hb4)))))
      | (go_at_call_of 86 (Value.slice b' m' e'); ((with_reducible refine (S4 _ (X4.out _ (by (with_reducible repeat (first | exact hB | exact bR | refine bA ?_ | refine bD ?_ | refine bN ?_ | (refine bS ?_ ?_; (· dsimp only; omega)) | refine bl_call ?_ hb7 | refine bl_call ?_ hb6 | refine bl_call ?_ hb5 | refine bl_call ?_ hb4 | refine bl_call ?_ hb3 | refine bl_call ?_ hb2))))).out.mono ?_); rintro v w5 ⟨rfl, hb5⟩; have ⟨r0, r1, r2, r3⟩ : w5.cell? ⟨w.heap.size, 0, none⟩ = some (.slice a n c) ∧ w5.cell? ⟨w.heap.size, 1, none⟩ = some (.slice b m e) ∧ w5.cell? ⟨w.heap.size + 1, 0, none⟩ = some (.slice a' n' c') ∧ w5.cell? ⟨w.heap.size + 1, 1, none⟩ = some (.slice b' m' e') := (by and_intros <;> (with_reducible repeat (first | exact r0 | exact r1 | exact r2 | exact r3 | refine kc_drew ?_ | refine kc_drewN _ ?_ | refine kc_below hb5 ?_ | (refine kc_new ?_ ?_; (· first | rfl | simp only [sZ]); (· first | rfl | simp)) | (refine kc_set0 ?_ ?_; (· first | rfl | simp)) | exact ct_of (by assumption) | refine ct_drew ?_ | refine ct_drewN _ ?_ | refine ct_below hb5 ?_ | (refine ct_new ?_ ?_; (· first | rfl | simp only [sZ]); (· first | rfl | simp)) | refine ct_set _ _ ?_ | refine ct_alloc _ ?_ | (refine kc_set ?_ ?_; (focus first | (intro hx; injection hx; omega) | (simp; done))) | refine kc_alloc _ ?_))); have hB : Below w.heap.size w w5 := (by (with_reducible repeat (first | exact hB | exact bR | refine bA ?_ | refine bD ?_ | refine bN ?_ | (refine bS ?_ ?_; (· dsimp only; omega)) | refine bl_call ?_ hb5))))))
        all_goals go_wp2_with (first
      | (go_at_call_of 87 (Value.slice a n c); ((with_reducible refine (F1 _ (X1.out _ (by (with_reducible repeat (first | exact hB | exact bR | refine bA ?_ | refine bD ?_ | refine bN ?_ | (refine bS ?_ ?_; (· dsimp only; omega)) | refine bl_call ?_ hb7 | refine bl_call ?_ hb6 | refine bl_call ?_ hb5 | refine bl_call ?_ hb4 | refine bl_call ?_ hb3 | refine bl_call ?_ hb2)))) (X3.out _ (by (with_reducible repeat (first | exact hB | exact bR | refine bA ?_ | refine bD ?_ | refine bN ?_ | (refine bS ?_ ?_; (· dsimp only; omega)) | refine bl_call ?_ hb7 | refine bl_call ?_ hb6 | refine bl_call ?_ hb5 | refine bl_call ?_ hb4 | refine bl_call ?_ hb3 | refine bl_call ?_ hb2))))).out.mono ?_); rintro v w6 ⟨rfl, hb6⟩; have ⟨r0, r1, r2, r3⟩ : w6.cell? ⟨w.heap.size, 0, none⟩ = some (.slice a n c) ∧ w6.cell? ⟨w.heap.size, 1, none⟩ = some (.slice b m e) ∧ w6.cell? ⟨w.heap.size + 1, 0, none⟩ = some (.slice a' n' c') ∧ w6.cell? ⟨w.heap.size + 1, 1, none⟩ = some (.slice b' m' e') := (by and_intros <;> (with_reducible repeat (first | exact r0 | exact r1 | exact r2 | exact r3 | refine kc_drew ?_ | refine kc_drewN _ ?_ | refine kc_below hb6 ?_ | (refine kc_new ?_ ?_; (· first | rfl | simp only [sZ]); (· first | rfl | simp)) | (refine kc_set0 ?_ ?_; (· first | rfl | simp)) | exact ct_of (by assumption) | refine ct_drew ?_ | refine ct_drewN _ ?_ | refine ct_below hb6 ?_ | (refine ct_new ?_ ?_; (· first | rfl | simp only [sZ]); (· first | rfl | simp)) | refine ct_set _ _ ?_ | refine ct_alloc _ ?_ | (refine kc_set ?_ ?_; (focus first | (intro hx; injection hx; omega) | (simp; done))) | refine kc_alloc _ ?_))); have hB : Below w.heap.size w w6 := (by (with_reducible repeat (first | exact hB | exact bR | refine bA ?_ | refine bD ?_ | refine bN ?_ | (refine bS ?_ ?_; (· dsimp only; omega)) | refine bl_call ?_ hb6)))))
      | (go_at_call_of 87 (Value.slice b m e); ((with_reducible refine (F2 _ (X2.out _ (by (with_reducible repeat (first | exact hB | exact bR | refine bA ?_ | refine bD ?_ | refine bN ?_ | (refine bS ?_ ?_; (· dsimp only; omega)) | refine bl_call ?_ hb7 | refine bl_call ?_ hb6 | refine bl_call ?_ hb5 | refine bl_call ?_ hb4 | refine bl_call ?_ hb3 | refine bl_call ?_ hb2)))) (X4.out _ (by (with_reducible repeat (first | exact hB | exact bR | refine bA ?_ | refine bD ?_ | refine bN ?_ | (refine bS ?_ ?_; (· dsimp only; omega)) | refine bl_call ?_ hb7 | refine bl_call ?_ hb6 | refine bl_call ?_ hb5 | refine bl_call ?_ hb4 | refine bl_call ?_ hb3 | refine bl_call ?_ hb2))))).out.mono ?_); rintro v w7 ⟨rfl, hb7⟩; have ⟨r0, r1, r2, r3⟩ : w7.cell? ⟨w.heap.size, 0, none⟩ = some (.slice a n c) ∧ w7.cell? ⟨w.heap.size, 1, none⟩ = some (.slice b m e) ∧ w7.cell? ⟨w.heap.size + 1, 0, none⟩ = some (.slice a' n' c') ∧ w7.cell? ⟨w.heap.size + 1, 1, none⟩ = some (.slice b' m' e') := (by and_intros <;> (with_reducible repeat (first | exact r0 | exact r1 | exact r2 | exact r3 | refine kc_drew ?_ | refine kc_drewN _ ?_ | refine kc_below hb7 ?_ | (refine kc_new ?_ ?_; (· first | rfl | simp only [sZ]); (· first | rfl | simp)) | (refine kc_set0 ?_ ?_; (· first | rfl | simp)) | exact ct_of (by assumption) | refine ct_drew ?_ | refine ct_drewN _ ?_ | refine ct_below hb7 ?_ | (refine ct_new ?_ ?_; (· first | rfl | simp only [sZ]); (· first | rfl | simp)) | refine ct_set _ _ ?_ | refine ct_alloc _ ?_ | (refine kc_set ?_ ?_; (focus first | (intro hx; injection hx; omega) | (simp; done))) | refine kc_alloc _ ?_))); have hB : Below w.heap.size w w7 := (by (with_reducible repeat (first | exact hB | exact bR | refine bA ?_ | refine bD ?_ | refine bN ?_ | (refine bS ?_ ?_; (· dsimp only; omega)) | refine bl_call ?_ hb7))))))
        all_goals go_ret
        all_goals first | exact ⟨rfl, hB⟩ | exact ⟨ret_bool (by simp), hB⟩
      · rw [if_pos hf] at hV
        subst hV
        have t2 : (f1 != 0) = true := by simpa using hf
        clear hn hs hf
        go_enter Try.func51, Try.ntmps51
        go_wp2_with fail
        go_region_held3 (fun w' => (w'.cell? ⟨w.heap.size, 0, none⟩ = some (.slice a n c) ∧ w'.cell? ⟨w.heap.size, 1, none⟩ = some (.slice b m e)) ∧ w'.cell? ⟨w.heap.size + 1, 0, none⟩ = some (.slice a' n' c') ∧ w'.cell? ⟨w.heap.size + 1, 1, none⟩ = some (.slice b' m' e')) (((try dsimp only); (repeat' apply And.intro)) <;> (with_reducible repeat (first | exact r0 | exact r1 | exact r2 | exact r3 | refine kc_drew ?_ | refine kc_drewN _ ?_ | refine kc_below hb7 ?_ | refine kc_below hb6 ?_ | refine kc_below hb5 ?_ | refine kc_below hb4 ?_ | refine kc_below hb3 ?_ | refine kc_below hb2 ?_ | (refine kc_new ?_ ?_; (· first | rfl | simp only [sZ]); (· first | rfl | simp)) | (refine kc_set0 ?_ ?_; (· first | rfl | simp)) | exact ct_of (by assumption) | refine ct_drew ?_ | refine ct_drewN _ ?_ | refine ct_below hb7 ?_ | refine ct_below hb6 ?_ | refine ct_below hb5 ?_ | refine ct_below hb4 ?_ | refine ct_below hb3 ?_ | refine ct_below hb2 ?_ | (refine ct_new ?_ ?_; (· first | rfl | simp only [sZ]); (· first | rfl | simp)) | refine ct_set _ _ ?_ | refine ct_alloc _ ?_ | (refine kc_set ?_ ?_; (focus first | (intro hx; injection hx; omega) | (simp; done))) | refine kc_alloc _ ?_))) (first
      | (go_at_call_of 86 (Value.slice a n c); ((with_reducible refine (S1 _ (X1.out _ (by (with_reducible repeat (first | exact hB | exact bR | refine bA ?_ | refine bD ?_ | refine bN ?_ | (refine bS ?_ ?_; (· dsimp only; omega)) | refine bl_call ?_ hb7 | refine bl_call ?_ hb6 | refine bl_call ?_ hb5 | refine bl_call ?_ hb4 | refine bl_call ?_ hb3 | refine bl_call ?_ hb2))))).out.mono ?_); rintro v w2 ⟨rfl, hb2⟩; have ⟨r0, r1, r2, r3⟩ : w2.cell? ⟨w.heap.size, 0, none⟩ = some (.slice a n c) ∧ w2.cell? ⟨w.heap.size, 1, none⟩ = some (.slice b m e) ∧ w2.cell? ⟨w.heap.size + 1, 0, none⟩ = some (.slice a' n' c') ∧ w2.cell? ⟨w.heap.size + 1, 1, none⟩ = some (.slice b' m' e') := (by and_intros <;> (with_reducible repeat (first | exact r0 | exact r1 | exact r2 | exact r3 | refine kc_drew ?_ | refine kc_drewN _ ?_ | refine kc_below hb2 ?_ | (refine kc_new ?_ ?_; (· first | rfl | simp only [sZ]); (· first | rfl | simp)) | (refine kc_set0 ?_ ?_; (· first | rfl | simp)) | exact ct_of (by assumption) | refine ct_drew ?_ | refine ct_drewN _ ?_ | refine ct_below hb2 ?_ | (refine ct_new ?_ ?_; (· first | rfl | simp only [sZ]); (· first | rfl | simp)) | refine ct_set _ _ ?_ | refine ct_alloc _ ?_ | (refine kc_set ?_ ?_; (focus first | (intro hx; injection hx; omega) | (simp; done))) | refine kc_alloc _ ?_))); have hB : Below w.heap.size w w2 := (by (with_reducible repeat (first | exact hB | exact bR | refine bA ?_ | refine bD ?_ | refine bN ?_ | (refine bS ?_ ?_; (· dsimp only; omega)) | refine bl_call ?_ hb2)))))
      | (go_at_call_of 86 (Value.slice b m e); ((with_reducible refine (S2 _ (X2.out _ (by (with_reducible repeat (first | exact hB | exact bR | refine bA ?_ | refine bD ?_ | refine bN ?_ | (refine bS ?_ ?_; (· dsimp only; omega)) | refine bl_call ?_ hb7 | refine bl_call ?_ hb6 | refine bl_call ?_ hb5 | refine bl_call ?_ hb4 | refine bl_call ?_ hb3 | refine bl_call ?_ hb2))))).out.mono ?_); rintro v w3 ⟨rfl, hb3⟩; have ⟨r0, r1, r2, r3⟩ : w3.cell? ⟨w.heap.size, 0, none⟩ = some (.slice a n c) ∧ w3.cell? ⟨w.heap.size, 1, none⟩ = some (.slice b m e) ∧ w3.cell? ⟨w.heap.size + 1, 0, none⟩ = some (.slice a' n' c') ∧ w3.cell? ⟨w.heap.size + 1, 1, none⟩ = some (.slice b' m' e') := (by and_intros <;> (with_reducible repeat (first | exact r0 | exact r1 | exact r2 | exact r3 | refine kc_drew ?_ | refine kc_drewN _ ?_ | refine kc_below hb3 ?_ | (refine kc_new ?_ ?_; (· first | rfl | simp only [sZ]); (· first | rfl | simp)) | (refine kc_set0 ?_ ?_; (· first | rfl | simp)) | exact ct_of (by assumption) | refine ct_drew ?_ | refine ct_drewN _ ?_ | refine ct_below hb3 ?_ | (refine ct_new ?_ ?_; (· first | rfl | simp only [sZ]); (· first | rfl | simp)) | refine ct_set _ _ ?_ | refine ct_alloc _ ?_ | (refine kc_set ?_ ?_; (focus first | (intro hx; injection hx; omega) | (simp; done))) | refine kc_alloc _ ?_))); have hB : Below w.heap.size w w3 := (by (with_reducible repeat (first | exact hB | exact bR | refine bA ?_ | refine bD ?_ | refine bN ?_ | (refine bS ?_ ?_; (· dsimp only; omega)) | refine bl_call ?_ hb3)))))
      | (go_at_call_of 86 (Value.slice a' n' c'); ((with_reducible refine (S3 _ (X3.out _ (by (with_reducible repeat (first | exact hB | exact bR | refine bA ?_ | refine bD ?_ | refine bN ?_ | (refine bS ?_ ?_; (· dsimp only; omega)) | refine bl_call ?_ hb7 | refine bl_call ?_ hb6 | refine bl_call ?_ hb5 | refine bl_call ?_ hb4 | refine bl_call ?_ hb3 | refine bl_call ?_ hb2))))).out.mono ?_); rintro v w4 ⟨rfl, hb4⟩; have ⟨r0, r1, r2, r3⟩ : w4.cell? ⟨w.heap.size, 0, none⟩ = some (.slice a n c) ∧ w4.cell? ⟨w.heap.size, 1, none⟩ = some (.slice b m e) ∧ w4.cell? ⟨w.heap.size + 1, 0, none⟩ = some (.slice a' n' c') ∧ w4.cell? ⟨w.heap.size + 1, 1, none⟩ = some (.slice b' m' e') := (by and_intros <;> (with_reducible repeat (first | exact r0 | exact r1 | exact r2 | exact r3 | refine kc_drew ?_ | refine kc_drewN _ ?_ | refine kc_below hb4 ?_ | (refine kc_new ?_ ?_; (· first | rfl | simp only [sZ]); (· first | rfl | simp)) | (refine kc_set0 ?_ ?_; (· first | rfl | simp)) | exact ct_of (by assumption) | refine ct_drew ?_ | refine ct_drewN _ ?_ | refine ct_below hb4 ?_ | (refine ct_new ?_ ?_; (· first | rfl | simp only [sZ]); (· first | rfl | simp)) | refine ct_set _ _ ?_ | refine ct_alloc _ ?_ | (refine kc_set ?_ ?_; (focus first | (intro hx; injection hx; omega) | (simp; done))) | refine kc_alloc _ ?_))); have hB : Below w.heap.size w w4 := (by (with_reducible repeat (first | exact hB | exact bR | refine bA ?_ | refine bD ?_ | refine bN ?_ | (refine bS ?_ ?_; (· dsimp only; omega)) | refine bl_call ?_ hb4)))))
      | (go_at_call_of 86 (Value.slice b' m' e'); ((with_reducible refine (S4 _ (X4.out _ (by (with_reducible repeat (first | exact hB | exact bR | refine bA ?_ | refine bD ?_ | refine bN ?_ | (refine bS ?_ ?_; (· dsimp only; omega)) | refine bl_call ?_ hb7 | refine bl_call ?_ hb6 | refine bl_call ?_ hb5 | refine bl_call ?_ hb4 | refine bl_call ?_ hb3 | refine bl_call ?_ hb2))))).out.mono ?_); rintro v w5 ⟨rfl, hb5⟩; have ⟨r0, r1, r2, r3⟩ : w5.cell? ⟨w.heap.size, 0, none⟩ = some (.slice a n c) ∧ w5.cell? ⟨w.heap.size, 1, none⟩ = some (.slice b m e) ∧ w5.cell? ⟨w.heap.size + 1, 0, none⟩ = some (.slice a' n' c') ∧ w5.cell? ⟨w.heap.size + 1, 1, none⟩ = some (.slice b' m' e') := (by and_intros <;> (with_reducible repeat (first | exact r0 | exact r1 | exact r2 | exact r3 | refine kc_drew ?_ | refine kc_drewN _ ?_ | refine kc_below hb5 ?_ | (refine kc_new ?_ ?_; (· first | rfl | simp only [sZ]); (· first | rfl | simp)) | (refine kc_set0 ?_ ?_; (· first | rfl | simp)) | exact ct_of (by assumption) | refine ct_drew ?_ | refine ct_drewN _ ?_ | refine ct_below hb5 ?_ | (refine ct_new ?_ ?_; (· first | rfl | simp only [sZ]); (· first | rfl | simp)) | refine ct_set _ _ ?_ | refine ct_alloc _ ?_ | (refine kc_set ?_ ?_; (focus first | (intro hx; injection hx; omega) | (simp; done))) | refine kc_alloc _ ?_))); have hB : Below w.heap.size w w5 := (by (with_reducible repeat (first | exact hB | exact bR | refine bA ?_ | refine bD ?_ | refine bN ?_ | (refine bS ?_ ?_; (· dsimp only; omega)) | refine bl_call ?_ hb5))))))
        all_goals go_wp2_with (first
      | (go_at_call_of 87 (Value.slice a n c); ((with_reducible refine (F1 _ (X1.out _ (by (with_reducible repeat (first | exact hB | exact bR | refine bA ?_ | refine bD ?_ | refine bN ?_ | (refine bS ?_ ?_; (· dsimp only; omega)) | refine bl_call ?_ hb7 | refine bl_call ?_ hb6 | refine bl_call ?_ hb5 | refine bl_call ?_ hb4 | refine bl_call ?_ hb3 | refine bl_call ?_ hb2)))) (X3.out _ (by (with_reducible repeat (first | exact hB | exact bR | refine bA ?_ | refine bD ?_ | refine bN ?_ | (refine bS ?_ ?_; (· dsimp only; omega)) | refine bl_call ?_ hb7 | refine bl_call ?_ hb6 | refine bl_call ?_ hb5 | refine bl_call ?_ hb4 | refine bl_call ?_ hb3 | refine bl_call ?_ hb2))))).out.mono ?_); rintro v w6 ⟨rfl, hb6⟩; have ⟨r0, r1, r2, r3⟩ : w6.cell? ⟨w.heap.size, 0, none⟩ = some (.slice a n c) ∧ w6.cell? ⟨w.heap.size, 1, none⟩ = some (.slice b m e) ∧ w6.cell? ⟨w.heap.size + 1, 0, none⟩ = some (.slice a' n' c') ∧ w6.cell? ⟨w.heap.size + 1, 1, none⟩ = some (.slice b' m' e') := (by and_intros <;> (with_reducible repeat (first | exact r0 | exact r1 | exact r2 | exact r3 | refine kc_drew ?_ | refine kc_drewN _ ?_ | refine kc_below hb6 ?_ | (refine kc_new ?_ ?_; (· first | rfl | simp only [sZ]); (· first | rfl | simp)) | (refine kc_set0 ?_ ?_; (· first | rfl | simp)) | exact ct_of (by assumption) | refine ct_drew ?_ | refine ct_drewN _ ?_ | refine ct_below hb6 ?_ | (refine ct_new ?_ ?_; (· first | rfl | simp only [sZ]); (· first | rfl | simp)) | refine ct_set _ _ ?_ | refine ct_alloc _ ?_ | (refine kc_set ?_ ?_; (focus first | (intro hx; injection hx; omega) | (simp; done))) | refine kc_alloc _ ?_))); have hB : Below w.heap.size w w6 := (by (with_reducible repeat (first | exact hB | exact bR | refine bA ?_ | refine bD ?_ | refine bN ?_ | (refine bS ?_ ?_; (· dsimp only; omega)) | refine bl_call ?_ hb6)))))
      | (go_at_call_of 87 (Value.slice b m e); ((with_reducible refine (F2 _ (X2.out _ (by (with_reducible repeat (first | exact hB | exact bR | refine bA ?_ | refine bD ?_ | refine bN ?_ | (refine bS ?_ ?_; (· dsimp only; omega)) | refine bl_call ?_ hb7 | refine bl_call ?_ hb6 | refine bl_call ?_ hb5 | refine bl_call ?_ hb4 | refine bl_call ?_ hb3 | refine bl_call ?_ hb2)))) (X4.out _ (by (with_reducible repeat (first | exact hB | exact bR | refine bA ?_ | refine bD ?_ | refine bN ?_ | (refine bS ?_ ?_; (· dsimp only; omega)) | refine bl_call ?_ hb7 | refine bl_call ?_ hb6 | refine bl_call ?_ hb5 | refine bl_call ?_ hb4 | refine bl_call ?_ hb3 | refine bl_call ?_ hb2))))).out.mono ?_); rintro v w7 ⟨rfl, hb7⟩; have ⟨r0, r1, r2, r3⟩ : w7.cell? ⟨w.heap.size, 0, none⟩ = some (.slice a n c) ∧ w7.cell? ⟨w.heap.size, 1, none⟩ = some (.slice b m e) ∧ w7.cell? ⟨w.heap.size + 1, 0, none⟩ = some (.slice a' n' c') ∧ w7.cell? ⟨w.heap.size + 1, 1, none⟩ = some (.slice b' m' e') := (by and_intros <;> (with_reducible repeat (first | exact r0 | exact r1 | exact r2 | exact r3 | refine kc_drew ?_ | refine kc_drewN _ ?_ | refine kc_below hb7 ?_ | (refine kc_new ?_ ?_; (· first | rfl | simp only [sZ]); (· first | rfl | simp)) | (refine kc_set0 ?_ ?_; (· first | rfl | simp)) | exact ct_of (by assumption) | refine ct_drew ?_ | refine ct_drewN _ ?_ | refine ct_below hb7 ?_ | (refine ct_new ?_ ?_; (· first | rfl | simp only [sZ]); (· first | rfl | simp)) | refine ct_set _ _ ?_ | refine ct_alloc _ ?_ | (refine kc_set ?_ ?_; (focus first | (intro hx; injection hx; omega) | (simp; done))) | refine kc_alloc _ ?_))); have hB : Below w.heap.size w w7 := (by (with_reducible repeat (first | exact hB | exact bR | refine bA ?_ | refine bD ?_ | refine bN ?_ | (refine bS ?_ ?_; (· dsimp only; omega)) | refine bl_call ?_ hb7))))))
        all_goals go_ret
        all_goals first | exact ⟨rfl, hB⟩ | exact ⟨ret_bool (by simp), hB⟩
    · rw [if_pos hs] at hV
      subst hV
      have t1 : (s1 + s2 != s3 + s4) = true := by simpa using hs
      clear hn
      go_enter Try.func51, Try.ntmps51
      go_wp2_with fail
      go_region_held3 (fun w' => (w'.cell? ⟨w.heap.size, 0, none⟩ = some (.slice a n c) ∧ w'.cell? ⟨w.heap.size, 1, none⟩ = some (.slice b m e)) ∧ w'.cell? ⟨w.heap.size + 1, 0, none⟩ = some (.slice a' n' c') ∧ w'.cell? ⟨w.heap.size + 1, 1, none⟩ = some (.slice b' m' e')) (((try dsimp only); (repeat' apply And.intro)) <;> (with_reducible repeat (first | exact r0 | exact r1 | exact r2 | exact r3 | refine kc_drew ?_ | refine kc_drewN _ ?_ | refine kc_below hb7 ?_ | refine kc_below hb6 ?_ | refine kc_below hb5 ?_ | refine kc_below hb4 ?_ | refine kc_below hb3 ?_ | refine kc_below hb2 ?_ | (refine kc_new ?_ ?_; (· first | rfl | simp only [sZ]); (· first | rfl | simp)) | (refine kc_set0 ?_ ?_; (· first | rfl | simp)) | exact ct_of (by assumption) | refine ct_drew ?_ | refine ct_drewN _ ?_ | refine ct_below hb7 ?_ | refine ct_below hb6 ?_ | refine ct_below hb5 ?_ | refine ct_below hb4 ?_ | refine ct_below hb3 ?_ | refine ct_below hb2 ?_ | (refine ct_new ?_ ?_; (· first | rfl | simp only [sZ]); (· first | rfl | simp)) | refine ct_set _ _ ?_ | refine ct_alloc _ ?_ | (refine kc_set ?_ ?_; (focus first | (intro hx; injection hx; omega) | (simp; done))) | refine kc_alloc _ ?_))) (first
      | (go_at_call_of 86 (Value.slice a n c); ((with_reducible refine (S1 _ (X1.out _ (by (with_reducible repeat (first | exact hB | exact bR | refine bA ?_ | refine bD ?_ | refine bN ?_ | (refine bS ?_ ?_; (· dsimp only; omega)) | refine bl_call ?_ hb7 | refine bl_call ?_ hb6 | refine bl_call ?_ hb5 | refine bl_call ?_ hb4 | refine bl_call ?_ hb3 | refine bl_call ?_ hb2))))).out.mono ?_); rintro v w2 ⟨rfl, hb2⟩; have ⟨r0, r1, r2, r3⟩ : w2.cell? ⟨w.heap.size, 0, none⟩ = some (.slice a n c) ∧ w2.cell? ⟨w.heap.size, 1, none⟩ = some (.slice b m e) ∧ w2.cell? ⟨w.heap.size + 1, 0, none⟩ = some (.slice a' n' c') ∧ w2.cell? ⟨w.heap.size + 1, 1, none⟩ = some (.slice b' m' e') := (by and_intros <;> (with_reducible repeat (first | exact r0 | exact r1 | exact r2 | exact r3 | refine kc_drew ?_ | refine kc_drewN _ ?_ | refine kc_below hb2 ?_ | (refine kc_new ?_ ?_; (· first | rfl | simp only [sZ]); (· first | rfl | simp)) | (refine kc_set0 ?_ ?_; (· first | rfl | simp)) | exact ct_of (by assumption) | refine ct_drew ?_ | refine ct_drewN _ ?_ | refine ct_below hb2 ?_ | (refine ct_new ?_ ?_; (· first | rfl | simp only [sZ]); (· first | rfl | simp)) | refine ct_set _ _ ?_ | refine ct_alloc _ ?_ | (refine kc_set ?_ ?_; (focus first | (intro hx; injection hx; omega) | (simp; done))) | refine kc_alloc _ ?_))); have hB : Below w.heap.size w w2 := (by (with_reducible repeat (first | exact hB | exact bR | refine bA ?_ | refine bD ?_ | refine bN ?_ | (refine bS ?_ ?_; (· dsimp only; omega)) | refine bl_call ?_ hb2)))))
      | (go_at_call_of 86 (Value.slice b m e); ((with_reducible refine (S2 _ (X2.out _ (by (with_reducible repeat (first | exact hB | exact bR | refine bA ?_ | refine bD ?_ | refine bN ?_ | (refine bS ?_ ?_; (· dsimp only; omega)) | refine bl_call ?_ hb7 | refine bl_call ?_ hb6 | refine bl_call ?_ hb5 | refine bl_call ?_ hb4 | refine bl_call ?_ hb3 | refine bl_call ?_ hb2))))).out.mono ?_); rintro v w3 ⟨rfl, hb3⟩; have ⟨r0, r1, r2, r3⟩ : w3.cell? ⟨w.heap.size, 0, none⟩ = some (.slice a n c) ∧ w3.cell? ⟨w.heap.size, 1, none⟩ = some (.slice b m e) ∧ w3.cell? ⟨w.heap.size + 1, 0, none⟩ = some (.slice a' n' c') ∧ w3.cell? ⟨w.heap.size + 1, 1, none⟩ = some (.slice b' m' e') := (by and_intros <;> (with_reducible repeat (first | exact r0 | exact r1 | exact r2 | exact r3 | refine kc_drew ?_ | refine kc_drewN _ ?_ | refine kc_below hb3 ?_ | (refine kc_new ?_ ?_; (· first | rfl | simp only [sZ]); (· first | rfl | simp)) | (refine kc_set0 ?_ ?_; (· first | rfl | simp)) | exact ct_of (by assumption) | refine ct_drew ?_ | refine ct_drewN _ ?_ | refine ct_below hb3 ?_ | (refine ct_new ?_ ?_; (· first | rfl | simp only [sZ]); (· first | rfl | simp)) | refine ct_set _ _ ?_ | refine ct_alloc _ ?_ | (refine kc_set ?_ ?_; (focus first | (intro hx; injection hx; omega) | (simp; done))) | refine kc_alloc _ ?_))); have hB : Below w.heap.size w w3 := (by (with_reducible repeat (first | exact hB | exact bR | refine bA ?_ | refine bD ?_ | refine bN ?_ | (refine bS ?_ ?_; (· dsimp only; omega)) | refine bl_call ?_ hb3)))))
      | (go_at_call_of 86 (Value.slice a' n' c'); ((with_reducible refine (S3 _ (X3.out _ (by (with_reducible repeat (first | exact hB | exact bR | refine bA ?_ | refine bD ?_ | refine bN ?_ | (refine bS ?_ ?_; (· dsimp only; omega)) | refine bl_call ?_ hb7 | refine bl_call ?_ hb6 | refine bl_call ?_ hb5 | refine bl_call ?_ hb4 | refine bl_call ?_ hb3 | refine bl_call ?_ hb2))))).out.mono ?_); rintro v w4 ⟨rfl, hb4⟩; have ⟨r0, r1, r2, r3⟩ : w4.cell? ⟨w.heap.size, 0, none⟩ = some (.slice a n c) ∧ w4.cell? ⟨w.heap.size, 1, none⟩ = some (.slice b m e) ∧ w4.cell? ⟨w.heap.size + 1, 0, none⟩ = some (.slice a' n' c') ∧ w4.cell? ⟨w.heap.size + 1, 1, none⟩ = some (.slice b' m' e') := (by and_intros <;> (with_reducible repeat (first | exact r0 | exact r1 | exact r2 | exact r3 | refine kc_drew ?_ | refine kc_drewN _ ?_ | refine kc_below hb4 ?_ | (refine kc_new ?_ ?_; (· first | rfl | simp only [sZ]); (· first | rfl | simp)) | (refine kc_set0 ?_ ?_; (· first | rfl | simp)) | exact ct_of (by assumption) | refine ct_drew ?_ | refine ct_drewN _ ?_ | refine ct_below hb4 ?_ | (refine ct_new ?_ ?_; (· first | rfl | simp only [sZ]); (· first | rfl | simp)) | refine ct_set _ _ ?_ | refine ct_alloc _ ?_ | (refine kc_set ?_ ?_; (focus first | (intro hx; injection hx; omega) | (simp; done))) | refine kc_alloc _ ?_))); have hB : Below w.heap.size w w4 := (by (with_reducible repeat (first | exact hB | exact bR | refine bA ?_ | refine bD ?_ | refine bN ?_ | (refine bS ?_ ?_; (· dsimp only; omega)) | refine bl_call ?_ hb4)))))
      | (go_at_call_of 86 (Value.slice b' m' e'); ((with_reducible refine (S4 _ (X4.out _ (by (with_reducible repeat (first | exact hB | exact bR | refine bA ?_ | refine bD ?_ | refine bN ?_ | (refine bS ?_ ?_; (· dsimp only; omega)) | refine bl_call ?_ hb7 | refine bl_call ?_ hb6 | refine bl_call ?_ hb5 | refine bl_call ?_ hb4 | refine bl_call ?_ hb3 | refine bl_call ?_ hb2))))).out.mono ?_); rintro v w5 ⟨rfl, hb5⟩; have ⟨r0, r1, r2, r3⟩ : w5.cell? ⟨w.heap.size, 0, none⟩ = some (.slice a n c) ∧ w5.cell? ⟨w.heap.size, 1, none⟩ = some (.slice b m e) ∧ w5.cell? ⟨w.heap.size + 1, 0, none⟩ = some (.slice a' n' c') ∧ w5.cell? ⟨w.heap.size + 1, 1, none⟩ = some (.slice b' m' e') := (by and_intros <;> (with_reducible repeat (first | exact r0 | exact r1 | exact r2 | exact r3 | refine kc_drew ?_ | refine kc_drewN _ ?_ | refine kc_below hb5 ?_ | (refine kc_new ?_ ?_; (· first | rfl | simp only [sZ]); (· first | rfl | simp)) | (refine kc_set0 ?_ ?_; (· first | rfl | simp)) | exact ct_of (by assumption) | refine ct_drew ?_ | refine ct_drewN _ ?_ | refine ct_below hb5 ?_ | (refine ct_new ?_ ?_; (· first | rfl | simp only [sZ]); (· first | rfl | simp)) | refine ct_set _ _ ?_ | refine ct_alloc _ ?_ | (refine kc_set ?_ ?_; (focus first | (intro hx; injection hx; omega) | (simp; done))) | refine kc_alloc _ ?_))); have hB : Below w.heap.size w w5 := (by (with_reducible repeat (first | exact hB | exact bR | refine bA ?_ | refine bD ?_ | refine bN ?_ | (refine bS ?_ ?_; (· dsimp only; omega)) | refine bl_call ?_ hb5))))))
      all_goals go_wp2_with fail
      all_goals go_region_held3 (fun w' => (w'.cell? ⟨w.heap.size, 0, none⟩ = some (.slice a n c) ∧ w'.cell? ⟨w.heap.size, 1, none⟩ = some (.slice b m e)) ∧ w'.cell? ⟨w.heap.size + 1, 0, none⟩ = some (.slice a' n' c') ∧ w'.cell? ⟨w.heap.size + 1, 1, none⟩ = some (.slice b' m' e')) (((try dsimp only); (repeat' apply And.intro)) <;> (with_reducible repeat (first | exact r0 | exact r1 | exact r2 | exact r3 | refine kc_drew ?_ | refine kc_drewN _ ?_ | refine kc_below hb7 ?_ | refine kc_below hb6 ?_ | refine kc_below hb5 ?_ | refine kc_below hb4 ?_ | refine kc_below hb3 ?_ | refine kc_below hb2 ?_ | (refine kc_new ?_ ?_; (· first | rfl | simp only [sZ]); (· first | rfl | simp)) | (refine kc_set0 ?_ ?_; (· first | rfl | simp)) | exact ct_of (by assumption) | refine ct_drew ?_ | refine ct_drewN _ ?_ | refine ct_below hb7 ?_ | refine ct_below hb6 ?_ | refine ct_below hb5 ?_ | refine ct_below hb4 ?_ | refine ct_below hb3 ?_ | refine ct_below hb2 ?_ | (refine ct_new ?_ ?_; (· first | rfl | simp only [sZ]); (· first | rfl | simp)) | refine ct_set _ _ ?_ | refine ct_alloc _ ?_ | (refine kc_set ?_ ?_; (focus first | (intro hx; injection hx; omega) | (simp; done))) | refine kc_alloc _ ?_))) (first
      | (go_at_call_of 86 (Value.slice a n c); ((with_reducible refine (S1 _ (X1.out _ (by (with_reducible repeat (first | exact hB | exact bR | refine bA ?_ | refine bD ?_ | refine bN ?_ | (refine bS ?_ ?_; (· dsimp only; omega)) | refine bl_call ?_ hb7 | refine bl_call ?_ hb6 | refine bl_call ?_ hb5 | refine bl_call ?_ hb4 | refine bl_call ?_ hb3 | refine bl_call ?_ hb2))))).out.mono ?_); rintro v w2 ⟨rfl, hb2⟩; have ⟨r0, r1, r2, r3⟩ : w2.cell? ⟨w.heap.size, 0, none⟩ = some (.slice a n c) ∧ w2.cell? ⟨w.heap.size, 1, none⟩ = some (.slice b m e) ∧ w2.cell? ⟨w.heap.size + 1, 0, none⟩ = some (.slice a' n' c') ∧ w2.cell? ⟨w.heap.size + 1, 1, none⟩ = some (.slice b' m' e') := (by and_intros <;> (with_reducible repeat (first | exact r0 | exact r1 | exact r2 | exact r3 | refine kc_drew ?_ | refine kc_drewN _ ?_ | refine kc_below hb2 ?_ | (refine kc_new ?_ ?_; (· first | rfl | simp only [sZ]); (· first | rfl | simp)) | (refine kc_set0 ?_ ?_; (· first | rfl | simp)) | exact ct_of (by assumption) | refine ct_drew ?_ | refine ct_drewN _ ?_ | refine ct_below hb2 ?_ | (refine ct_new ?_ ?_; (· first | rfl | simp only [sZ]); (· first | rfl | simp)) | refine ct_set _ _ ?_ | refine ct_alloc _ ?_ | (refine kc_set ?_ ?_; (focus first | (intro hx; injection hx; omega) | (simp; done))) | refine kc_alloc _ ?_))); have hB : Below w.heap.size w w2 := (by (with_reducible repeat (first | exact hB | exact bR | refine bA ?_ | refine bD ?_ | refine bN ?_ | (refine bS ?_ ?_; (· dsimp only; omega)) | refine bl_call ?_ hb2)))))
      | (go_at_call_of 86 (Value.slice b m e); ((with_reducible refine (S2 _ (X2.out _ (by (with_reducible repeat (first | exact hB | exact bR | refine bA ?_ | refine bD ?_ | refine bN ?_ | (refine bS ?_ ?_; (· dsimp only; omega)) | refine bl_call ?_ hb7 | refine bl_call ?_ hb6 | refine bl_call ?_ hb5 | refine bl_call ?_ hb4 | refine bl_call ?_ hb3 | refine bl_call ?_ hb2))))).out.mono ?_); rintro v w3 ⟨rfl, hb3⟩; have ⟨r0, r1, r2, r3⟩ : w3.cell? ⟨w.heap.size, 0, none⟩ = some (.slice a n c) ∧ w3.cell? ⟨w.heap.size, 1, none⟩ = some (.slice b m e) ∧ w3.cell? ⟨w.heap.size + 1, 0, none⟩ = some (.slice a' n' c') ∧ w3.cell? ⟨w.heap.size + 1, 1, none⟩ = some (.slice b' m' e') := (by and_intros <;> (with_reducible repeat (first | exact r0 | exact r1 | exact r2 | exact r3 | refine kc_drew ?_ | refine kc_drewN _ ?_ | refine kc_below hb3 ?_ | (refine kc_new ?_ ?_; (· first | rfl | simp only [sZ]); (· first | rfl | simp)) | (refine kc_set0 ?_ ?_; (· first | rfl | simp)) | exact ct_of (by assumption) | refine ct_drew ?_ | refine ct_drewN _ ?_ | refine ct_below hb3 ?_ | (refine ct_new ?_ ?_; (· first | rfl | simp only [sZ]); (· first | rfl | simp)) | refine ct_set _ _ ?_ | refine ct_alloc _ ?_ | (refine kc_set ?_ ?_; (focus first | (intro hx; injection hx; omega) | (simp; done))) | refine kc_alloc _ ?_))); have hB : Below w.heap.size w w3 := (by (with_reducible repeat (first | exact hB | exact bR | refine bA ?_ | refine bD ?_ | refine bN ?_ | (refine bS ?_ ?_; (· dsimp only; omega)) | refine bl_call ?_ hb3)))))
      | (go_at_call_of 86 (Value.slice a' n' c'); ((with_reducible refine (S3 _ (X3.out _ (by (with_reducible repeat (first | exact hB | exact bR | refine bA ?_ | refine bD ?_ | refine bN ?_ | (refine bS ?_ ?_; (· dsimp only; omega)) | refine bl_call ?_ hb7 | refine bl_call ?_ hb6 | refine bl_call ?_ hb5 | refine bl_call ?_ hb4 | refine bl_call ?_ hb3 | refine bl_call ?_ hb2))))).out.mono ?_); rintro v w4 ⟨rfl, hb4⟩; have ⟨r0, r1, r2, r3⟩ : w4.cell? ⟨w.heap.size, 0, none⟩ = some (.slice a n c) ∧ w4.cell? ⟨w.heap.size, 1, none⟩ = some (.slice b m e) ∧ w4.cell? ⟨w.heap.size + 1, 0, none⟩ = some (.slice a' n' c') ∧ w4.cell? ⟨w.heap.size + 1, 1, none⟩ = some (.slice b' m' e') := (by and_intros <;> (with_reducible repeat (first | exact r0 | exact r1 | exact r2 | exact r3 | refine kc_drew ?_ | refine kc_drewN _ ?_ | refine kc_below hb4 ?_ | (refine kc_new ?_ ?_; (· first | rfl | simp only [sZ]); (· first | rfl | simp)) | (refine kc_set0 ?_ ?_; (· first | rfl | simp)) | exact ct_of (by assumption) | refine ct_drew ?_ | refine ct_drewN _ ?_ | refine ct_below hb4 ?_ | (refine ct_new ?_ ?_; (· first | rfl | simp only [sZ]); (· first | rfl | simp)) | refine ct_set _ _ ?_ | refine ct_alloc _ ?_ | (refine kc_set ?_ ?_; (focus first | (intro hx; injection hx; omega) | (simp; done))) | refine kc_alloc _ ?_))); have hB : Below w.heap.size w w4 := (by (with_reducible repeat (first | exact hB | exact bR | refine bA ?_ | refine bD ?_ | refine bN ?_ | (refine bS ?_ ?_; (· dsimp only; omega)) | refine bl_call ?_ hb4)))))
      | (go_at_call_of 86 (Value.slice b' m' e'); ((with_reducible refine (S4 _ (X4.out _ (by (with_reducible repeat (first | exact hB | exact bR | refine bA ?_ | refine bD ?_ | refine bN ?_ | (refine bS ?_ ?_; (· dsimp only; omega)) | refine bl_call ?_ hb7 | refine bl_call ?_ hb6 | refine bl_call ?_ hb5 | refine bl_call ?_ hb4 | refine bl_call ?_ hb3 | refine bl_call ?_ hb2))))).out.mono ?_); rintro v w5 ⟨rfl, hb5⟩; have ⟨r0, r1, r2, r3⟩ : w5.cell? ⟨w.heap.size, 0, none⟩ = some (.slice a n c) ∧ w5.cell? ⟨w.heap.size, 1, none⟩ = some (.slice b m e) ∧ w5.cell? ⟨w.heap.size + 1, 0, none⟩ = some (.slice a' n' c') ∧ w5.cell? ⟨w.heap.size + 1, 1, none⟩ = some (.slice b' m' e') := (by and_intros <;> (with_reducible repeat (first | exact r0 | exact r1 | exact r2 | exact r3 | refine kc_drew ?_ | refine kc_drewN _ ?_ | refine kc_below hb5 ?_ | (refine kc_new ?_ ?_; (· first | rfl | simp only [sZ]); (· first | rfl | simp)) | (refine kc_set0 ?_ ?_; (· first | rfl | simp)) | exact ct_of (by assumption) | refine ct_drew ?_ | refine ct_drewN _ ?_ | refine ct_below hb5 ?_ | (refine ct_new ?_ ?_; (· first | rfl | simp only [sZ]); (· first | rfl | simp)) | refine ct_set _ _ ?_ | refine ct_alloc _ ?_ | (refine kc_set ?_ ?_; (focus first | (intro hx; injection hx; omega) | (simp; done))) | refine kc_alloc _ ?_))); have hB : Below w.heap.size w w5 := (by (with_reducible repeat (first | exact hB | exact bR | refine bA ?_ | refine bD ?_ | refine bN ?_ | (refine bS ?_ ?_; (· dsimp only; omega)) | refine bl_call ?_ hb5))))))
      all_goals go_wp2_with fail
      all_goals go_ret
      all_goals first | exact ⟨rfl, hB⟩ | exact ⟨ret_bool (by simp), hB⟩
  · rw [if_pos hn] at hV
    subst hV
    have t0 : ((n : Int) != (n' : Int)) = true := by simp; omega
    clear hn
    go_enter Try.func51, Try.ntmps51
    go_wp2_with fail
    go_ret
    first | exact ⟨rfl, by (with_reducible repeat (first | exact bR | refine bA ?_ | refine bD ?_ | refine bN ?_ | (refine bS ?_ ?_; (· dsimp only; omega))))⟩ | exact ⟨ret_bool (by simp), by (with_reducible repeat (first | exact bR | refine bA ?_ | refine bD ?_ | refine bN ?_ | (refine bS ?_ ?_; (· dsimp only; omega))))⟩
end Go.Proofs.Ytoenimkgagndnaa
namespace Go.Proofs.Ytoenimkgagndnaa
set_option linter.unusedVariables false
set_option linter.unusedSimpArgs false
open Go.RowKit Go.Lib

/-- A stage of a train fits limits, and follows the one before it. -/
def FitI (xs ys : List Int) (a b c d : Int) (i : Nat) : Prop :=
  (a ≤ xs.getD i 0 ∧ xs.getD i 0 ≤ b) ∧ (c ≤ ys.getD i 0 ∧ ys.getD i 0 ≤ d) ∧ (0 < i → xs.getD i 0 ≤ xs.getD (i - 1) 0 ∧ ys.getD (i - 1) 0 ≤ ys.getD i 0)
def FitP (xs ys : List Int) (a b c d k : Int) : Prop := okT k xs ys ∧ ∀ i, i < xs.length → FitI xs ys a b c d i

set_option maxHeartbeats 4000000 in
set_option maxRecDepth 100000 in
theorem refFits_any (p q : Option Addr) (n u m v : Nat) (a b c d k : Int) (xs ys : List Int) (w : World) (hx : Rd w (.slice p n u) xs) (hy : Rd w (.slice q m v) ys) (hn : n ≤ 1000) (hm : m ≤ 1000) (V : Bool) (hV : V = true ↔ FitP xs ys a b c d k) :
    Calls Try.prog 39 #[.agg #[.slice p n u, .slice q m v], .agg #[.int .i64 a, .int .i64 b, .int .i64 c, .int .i64 d, .int .i64 k]] w fun e w' => e = .returned (.bool V) ∧ Below w.heap.size w w' := by
  obtain ⟨xl, hxc⟩ := rdl_len hx
  obtain ⟨yl, hyc⟩ := rdl_len hy
  have HX : Hid (∀ W, Below w.heap.size w W → Rd W (.slice p n u) xs) := fun W hW => hx.below hW
  have HY : Hid (∀ W, Below w.heap.size w W → Rd W (.slice q m v) ys) := fun W hW => hy.below hW
  have HT := fun W g1 g2 => Lib.hid (rtrain_any p q n u m v k xs ys W g1 g2 (by omega) (by omega))
  have hnu : (n : Int) ≤ (u : Int) := by omega
  by_cases ht : okT k xs ys
  · have hmn : m = n := by have := ht.2.1; omega
    subst hmn
    have hmv : (m : Int) ≤ (v : Int) := by omega
    have HV : Hid (V = true ↔ ∀ i, i < m → FitI xs ys a b c d i) := by
      rw [hV]
      unfold FitP
      rw [xl]
      exact ⟨fun h => h.2, fun h => ⟨ht, h⟩⟩
    have hok : okB k xs ys = true := decide_eq_true ht
    simp only [hok] at HT
    have IX : Hid (∀ i, i < m → inT (xs.getD i 0)) := by rw [← xl]; exact all_getD.1 ht.2.2.1
    have IY : Hid (∀ i, i < m → inT (ys.getD i 0)) := by rw [← yl]; exact all_getD.1 ht.2.2.2
    clear hx hy xl yl hV ht hok
    go_enter Try.func39, Try.ntmps39
    go_wp2_with (go_at_call 35; ((with_reducible refine (HT _ (HX.out _ (by (with_reducible repeat (first | exact bR | refine bA ?_ | refine bD ?_ | refine bN ?_ | (refine bS ?_ ?_; (· dsimp only; omega)))))) (HY.out _ (by (with_reducible repeat (first | exact bR | refine bA ?_ | refine bD ?_ | refine bN ?_ | (refine bS ?_ ?_; (· dsimp only; omega))))))).out.mono ?_); rintro e w2 ⟨rfl, hk2⟩; have hb2 := hk2.below; have ⟨r0, r1, r2, r3, r4, r5, r6⟩ : w2.cell? ⟨w.heap.size, 0, none⟩ = some (.slice p m u) ∧ w2.cell? ⟨w.heap.size, 1, none⟩ = some (.slice q m v) ∧ w2.cell? ⟨w.heap.size + 1, 0, none⟩ = some (.int .i64 a) ∧ w2.cell? ⟨w.heap.size + 1, 1, none⟩ = some (.int .i64 b) ∧ w2.cell? ⟨w.heap.size + 1, 2, none⟩ = some (.int .i64 c) ∧ w2.cell? ⟨w.heap.size + 1, 3, none⟩ = some (.int .i64 d) ∧ w2.cell? ⟨w.heap.size + 1, 4, none⟩ = some (.int .i64 k) := (by and_intros <;> (with_reducible repeat (first | refine kc_drew ?_ | refine kc_drewN _ ?_ | refine kc_below hb2 ?_ | (refine kc_new ?_ ?_; (· first | rfl | simp only [sZ]); (· first | rfl | simp)) | (refine kc_set0 ?_ ?_; (· first | rfl | simp)) | exact ct_of (by assumption) | refine ct_drew ?_ | refine ct_drewN _ ?_ | refine ct_below hb2 ?_ | (refine ct_new ?_ ?_; (· first | rfl | simp only [sZ]); (· first | rfl | simp)) | refine ct_set _ _ ?_ | refine ct_alloc _ ?_ | (refine kc_set ?_ ?_; (focus first | (intro hx; injection hx; omega) | (simp; done))) | refine kc_alloc _ ?_))); have hB : Below w.heap.size w w2 := (by (with_reducible repeat (first | exact bR | refine bA ?_ | refine bD ?_ | refine bN ?_ | (refine bS ?_ ?_; (· dsimp only; omega)) | refine bl_call ?_ hb2)))))
    have X2 := Lib.hid (HX.out w2 hB)
    have Y2 := Lib.hid (HY.out w2 hB)
    go_loopg [5] m (fun gh r wr => ∃ i j : Nat, i ≤ m ∧ m - i ≤ gh ∧ r = .int .i64 i ∧ Hid (∀ l, l < i → FitI xs ys a b c d l) ∧ wr = w2.drewN j)
    case atStart => exact ⟨0, 0, Nat.zero_le _, by omega, rfl, fun l hl => absurd hl (by omega), rfl⟩
    case round =>
      obtain ⟨i, j, him, hgh, rfl, hE, rfl⟩ := hrel
      by_cases h : i < m
      · have h' : (i : Int) < (m : Int) := by omega
        have hi0 : (0 : Int) ≤ (i : Int) := by omega
        obtain ⟨g, o, rfl, c1⟩ := rdl_at X2.out h
        obtain ⟨g2, o2, rfl, c2⟩ := rdl_at Y2.out h
        have hxi := IX.out i h
        have hyi := IY.out i h
        unfold inT at hxi hyi
        have HF : Hid (¬ FitI xs ys a b c d i → V = false) := fun hf => by
          cases V
          · rfl
          · exact absurd (HV.out.1 rfl i h) hf
        have HS : Hid (FitI xs ys a b c d i → ∀ l, l < i + 1 → FitI xs ys a b c d l) := fun hf l hl => by
          rcases (show l < i ∨ l = i by omega) with h | h
          · exact hE.out l h
          · rw [h]; exact hf
        rcases Nat.eq_zero_or_pos i with rfl | hp
        · unfold FitI at HF HS
          generalize hx0 : xs.getD 0 0 = x at *
          generalize hy0 : ys.getD 0 0 = y at *
          clear hx0 hy0
          rw [Nat.add_zero] at c1 c2
          by_cases k0 : x < a
          · obtain rfl : V = false := HF.out (fun hf => by have := hf; omega)
            clear HF HS HV hE
            go_wp2_with fail
            go_quiet (fail)
            go_wp2_with fail
            go_ret
            exact ⟨rfl, by (with_reducible repeat (first | exact hB | exact bR | refine bA ?_ | refine bD ?_ | refine bN ?_ | (refine bS ?_ ?_; (· dsimp only; omega))))⟩
          · have k0' : a ≤ x := by omega
            clear k0
            by_cases k1 : b < x
            · obtain rfl : V = false := HF.out (fun hf => by have := hf; omega)
              clear HF HS HV hE
              go_wp2_with fail
              go_quiet (fail)
              go_wp2_with fail
              go_ret
              exact ⟨rfl, by (with_reducible repeat (first | exact hB | exact bR | refine bA ?_ | refine bD ?_ | refine bN ?_ | (refine bS ?_ ?_; (· dsimp only; omega))))⟩
            · have k1' : x ≤ b := by omega
              clear k1
              by_cases k2 : y < c
              · obtain rfl : V = false := HF.out (fun hf => by have := hf; omega)
                clear HF HS HV hE
                go_wp2_with fail
                go_quiet (fail)
                go_wp2_with fail
                go_ret
                exact ⟨rfl, by (with_reducible repeat (first | exact hB | exact bR | refine bA ?_ | refine bD ?_ | refine bN ?_ | (refine bS ?_ ?_; (· dsimp only; omega))))⟩
              · have k2' : c ≤ y := by omega
                clear k2
                by_cases k3 : d < y
                · obtain rfl : V = false := HF.out (fun hf => by have := hf; omega)
                  clear HF HS HV hE
                  go_wp2_with fail
                  go_quiet (fail)
                  go_wp2_with fail
                  go_ret
                  exact ⟨rfl, by (with_reducible repeat (first | exact hB | exact bR | refine bA ?_ | refine bD ?_ | refine bN ?_ | (refine bS ?_ ?_; (· dsimp only; omega))))⟩
                · have k3' : y ≤ d := by omega
                  clear k3
                  have HN := Lib.hid (HS.out (by first | exact ⟨⟨by omega, by omega⟩, ⟨by omega, by omega⟩, fun _ => ⟨by omega, by omega⟩⟩ | exact ⟨⟨by omega, by omega⟩, ⟨by omega, by omega⟩, fun h => absurd h (by omega)⟩))
                  clear HF HS hE
                  go_wp2_with fail
                  go_quiet (fail)
                  go_wp2_with fail
                  go_roundg (m - (0 + 1))
                  case measure => omega
                  case rel => exact ⟨0 + 1, _, by omega, by omega, by go_num, HN.out, by first | rfl | (rw [World.drewN_drewN]; done) | (rw [World.drewN_drewN, World.drewN_drewN])⟩
        · obtain ⟨l, rfl⟩ : ∃ l, i = l + 1 := ⟨i - 1, by omega⟩
          obtain ⟨g', o', he, d1⟩ := rdl_at X2.out (show l < m by omega)
          obtain ⟨g2', o2', he2, d2⟩ := rdl_at Y2.out (show l < m by omega)
          simp only [Option.some.injEq, Addr.mk.injEq, and_true] at he he2
          obtain ⟨rfl, rfl⟩ := he
          obtain ⟨rfl, rfl⟩ := he2
          unfold FitI at HF HS
          simp only [Nat.add_sub_cancel] at HF HS
          generalize hx0 : xs.getD (l + 1) 0 = x at *
          generalize hy0 : ys.getD (l + 1) 0 = y at *
          generalize hx1 : xs.getD l 0 = x' at *
          generalize hy1 : ys.getD l 0 = y' at *
          clear hx0 hy0 hx1 hy1
          by_cases k0 : x < a
          · obtain rfl : V = false := HF.out (fun hf => by have := hf; omega)
            clear HF HS HV hE
            go_wp2_with fail
            go_quiet (fail)
            go_wp2_with fail
            go_ret
            exact ⟨rfl, by (with_reducible repeat (first | exact hB | exact bR | refine bA ?_ | refine bD ?_ | refine bN ?_ | (refine bS ?_ ?_; (· dsimp only; omega))))⟩
          · have k0' : a ≤ x := by omega
            clear k0
            by_cases k1 : b < x
            · obtain rfl : V = false := HF.out (fun hf => by have := hf; omega)
              clear HF HS HV hE
              go_wp2_with fail
              go_quiet (fail)
              go_wp2_with fail
              go_ret
              exact ⟨rfl, by (with_reducible repeat (first | exact hB | exact bR | refine bA ?_ | refine bD ?_ | refine bN ?_ | (refine bS ?_ ?_; (· dsimp only; omega))))⟩
            · have k1' : x ≤ b := by omega
              clear k1
              by_cases k2 : y < c
              · obtain rfl : V = false := HF.out (fun hf => by have := hf; omega)
                clear HF HS HV hE
                go_wp2_with fail
                go_quiet (fail)
                go_wp2_with fail
                go_ret
                exact ⟨rfl, by (with_reducible repeat (first | exact hB | exact bR | refine bA ?_ | refine bD ?_ | refine bN ?_ | (refine bS ?_ ?_; (· dsimp only; omega))))⟩
              · have k2' : c ≤ y := by omega
                clear k2
                by_cases k3 : d < y
                · obtain rfl : V = false := HF.out (fun hf => by have := hf; omega)
                  clear HF HS HV hE
                  go_wp2_with fail
                  go_quiet (fail)
                  go_wp2_with fail
                  go_ret
                  exact ⟨rfl, by (with_reducible repeat (first | exact hB | exact bR | refine bA ?_ | refine bD ?_ | refine bN ?_ | (refine bS ?_ ?_; (· dsimp only; omega))))⟩
                · have k3' : y ≤ d := by omega
                  clear k3
                  by_cases k4 : x' < x
                  · obtain rfl : V = false := HF.out (fun hf => by have := hf; omega)
                    clear HF HS HV hE
                    go_wp2_with fail
                    go_quiet (fail)
                    go_wp2_with fail
                    go_ret
                    exact ⟨rfl, by (with_reducible repeat (first | exact hB | exact bR | refine bA ?_ | refine bD ?_ | refine bN ?_ | (refine bS ?_ ?_; (· dsimp only; omega))))⟩
                  · have k4' : x ≤ x' := by omega
                    clear k4
                    by_cases k5 : y < y'
                    · obtain rfl : V = false := HF.out (fun hf => by have := hf; omega)
                      clear HF HS HV hE
                      go_wp2_with fail
                      go_quiet (fail)
                      go_wp2_with fail
                      go_ret
                      exact ⟨rfl, by (with_reducible repeat (first | exact hB | exact bR | refine bA ?_ | refine bD ?_ | refine bN ?_ | (refine bS ?_ ?_; (· dsimp only; omega))))⟩
                    · have k5' : y' ≤ y := by omega
                      clear k5
                      have HN := Lib.hid (HS.out (by first | exact ⟨⟨by omega, by omega⟩, ⟨by omega, by omega⟩, fun _ => ⟨by omega, by omega⟩⟩ | exact ⟨⟨by omega, by omega⟩, ⟨by omega, by omega⟩, fun h => absurd h (by omega)⟩))
                      clear HF HS hE
                      go_wp2_with fail
                      go_quiet (fail)
                      go_wp2_with fail
                      go_roundg (m - (l + 1 + 1))
                      case measure => omega
                      case rel => exact ⟨l + 1 + 1, _, by omega, by omega, by go_num, HN.out, by first | rfl | (rw [World.drewN_drewN]; done) | (rw [World.drewN_drewN, World.drewN_drewN])⟩
      · obtain rfl : i = m := by omega
        have h' : ¬ (i : Int) < (i : Int) := by omega
        obtain rfl : V = true := HV.out.2 hE.out
        clear hE
        go_wp2_with fail
        go_ret
        exact ⟨rfl, by (with_reducible repeat (first | exact hB | exact bR | refine bA ?_ | refine bD ?_ | refine bN ?_ | (refine bS ?_ ?_; (· dsimp only; omega))))⟩
  · have hok : okB k xs ys = false := decide_eq_false ht
    simp only [hok] at HT
    obtain rfl : V = false := by
      cases V
      · rfl
      · exact absurd (hV.1 rfl).1 ht
    clear hx hy xl yl hV ht hok
    go_enter Try.func39, Try.ntmps39
    go_wp2_with (go_at_call 35; ((with_reducible refine (HT _ (HX.out _ (by (with_reducible repeat (first | exact bR | refine bA ?_ | refine bD ?_ | refine bN ?_ | (refine bS ?_ ?_; (· dsimp only; omega)))))) (HY.out _ (by (with_reducible repeat (first | exact bR | refine bA ?_ | refine bD ?_ | refine bN ?_ | (refine bS ?_ ?_; (· dsimp only; omega))))))).out.mono ?_); rintro e w2 ⟨rfl, hk2⟩; have hb2 := hk2.below; have hB : Below w.heap.size w w2 := (by (with_reducible repeat (first | exact bR | refine bA ?_ | refine bD ?_ | refine bN ?_ | (refine bS ?_ ?_; (· dsimp only; omega)) | refine bl_call ?_ hb2)))))
    go_ret
    exact ⟨rfl, hB⟩
end Go.Proofs.Ytoenimkgagndnaa
