/- GearOrder returns true for every input: Cmp is an order that agrees with equality, and adding the same to both sides keeps it. No condition. -/
import Derived.Test.YtoenimkgagndnaaCGOrder
import Derived.Test.YtoenimkgagndnaaCCame
namespace Go.Proofs.Ytoenimkgagndnaa
set_option linter.unusedVariables false
set_option linter.unusedSimpArgs false
open Go.ChangeShapes Go.WideShapes Go.ChangeAt Go.RowKit

theorem ok_same {n d m e : Int} (h : okF n d) (k : okF m e) (he : n * e = m * d) : n = m ∧ d = e := by
  obtain ⟨d1, _, _, _, gn⟩ := h
  obtain ⟨e1, _, _, _, gm⟩ := k
  have a1 : d.natAbs ∣ e.natAbs := Nat.Coprime.dvd_of_dvd_mul_left (m := n.natAbs) (Nat.Coprime.symm gn) (by rw [← Int.natAbs_mul, he, Int.natAbs_mul]; exact Nat.dvd_mul_left _ _)
  have a2 : e.natAbs ∣ d.natAbs := Nat.Coprime.dvd_of_dvd_mul_left (m := m.natAbs) (Nat.Coprime.symm gm) (by rw [← Int.natAbs_mul, ← he, Int.natAbs_mul]; exact Nat.dvd_mul_left _ _)
  have a3 := Nat.dvd_antisymm a1 a2
  obtain rfl : d = e := by omega
  exact ⟨Int.eq_of_mul_eq_mul_right (show d ≠ 0 by omega) he, rfl⟩

theorem red_rat {z : Int} {b : Nat} (hb : 1 ≤ b) (ha : z.natAbs ≤ 4611686018427387904) (hb' : b ≤ 4611686018427387904) :
    ∃ N D : Int, redV (decide (z < 0)) z.natAbs b = .tuple #[.agg #[.int .i64 N, .int .i64 D], .int .i64 0] ∧ okF N D ∧ N * b = z * D := by
  obtain ⟨N, D, hr, ho, _, _⟩ := red_good (decide (z < 0)) hb ha hb'
  refine ⟨N, D, hr, ho, ?_⟩
  have g1 := Nat.div_mul_cancel (Nat.gcd_dvd_left z.natAbs b)
  have g2 := Nat.div_mul_cancel (Nat.gcd_dvd_right z.natAbs b)
  have h1 := Nat.div_le_self z.natAbs (Nat.gcd z.natAbs b)
  have h2 := Nat.div_le_self b (Nat.gcd z.natAbs b)
  unfold redV at hr
  rw [if_neg (by omega)] at hr
  generalize Nat.gcd z.natAbs b = g at *
  generalize z.natAbs / g = p at *
  generalize b / g = q at *
  simp only [Value.tuple.injEq, Array.mk.injEq, List.cons.injEq, Value.agg.injEq, Value.int.injEq, true_and, and_true, decide_eq_true_eq] at hr
  obtain ⟨hN, hD⟩ := hr
  subst hD
  have ez : z = (if z < 0 then -(p : Int) else (p : Int)) * g := by
    by_cases h : z < 0
    · rw [if_pos h, Int.neg_mul, ← Int.natCast_mul, g1]; omega
    · rw [if_neg h, ← Int.natCast_mul, g1]; omega
  rw [hN] at ez
  rw [← g2, Int.natCast_mul]
  conv => rhs; rw [ez]
  rw [Int.mul_assoc, Int.mul_comm (g : Int) (q : Int)]

theorem mul_bd {n e : Int} (hn : n.natAbs ≤ 1000000) (he : e.natAbs ≤ 1000000) : (n * e).natAbs ≤ 1000000000000 := by
  rw [Int.natAbs_mul]
  exact Nat.mul_le_mul hn he

theorem add_rat {n d m e : Int} (ho : okF n d) (ho' : okF m e) (h1 : n.natAbs ≤ 1000000) (h2 : d ≤ 1000000) (h3 : m.natAbs ≤ 1000000) (h4 : e ≤ 1000000) :
    ∃ N D : Int, okF N D ∧ N * (d * e) = (n * e + m * d) * D ∧ ∀ W, Hid (Calls Try.prog 46 #[.agg #[.int .i64 n, .int .i64 d], .agg #[.int .i64 m, .int .i64 e]] W fun v w' => v = .returned (.tuple #[.agg #[.int .i64 N, .int .i64 D], .int .i64 0]) ∧ Below W.heap.size W w') := by
  have d1 := ho.1
  have e1 := ho'.1
  have b1 := mul_bd h1 (e := e) (by omega)
  have b2 := mul_bd h3 (e := d) (by omega)
  have b3 := mul_bd (n := d) (e := e) (by omega) (by omega)
  have p := Int.mul_pos (show 0 < d by omega) (show 0 < e by omega)
  have b4 : d.natAbs * e.natAbs = (d * e).natAbs := (Int.natAbs_mul _ _).symm
  have hs : n.natAbs * e.natAbs + m.natAbs * d.natAbs ≤ 18446744073709551615 := by
    rw [← Int.natAbs_mul, ← Int.natAbs_mul]; omega
  obtain ⟨N, D, hr, hk, hz⟩ := red_rat (z := n * e + m * d) (b := d.natAbs * e.natAbs) (by omega) (by omega) (by omega)
  refine ⟨N, D, hk, ?_, fun W => Lib.hid ?_⟩
  · rw [← hz, b4]
    congr 1
    omega
  · have := addG_small n m d e W ho ho' hs
    rwa [hr] at this

theorem cmpZ_diff (x y : Int) : cmpZ x y = cmpZ (x - y) 0 := by
  rcases Int.lt_trichotomy x y with h | h | h
  · rw [cmpZ_lt h, cmpZ_lt (by omega)]
  · rw [cmpZ_eq h, cmpZ_eq (by omega)]
  · rw [cmpZ_gt h, cmpZ_gt (by omega)]
theorem cmpZ_scale {k z : Int} (hk : 0 < k) : cmpZ (k * z) 0 = cmpZ z 0 := by
  rcases Int.lt_trichotomy z 0 with h | h | h
  · rw [cmpZ_lt h, cmpZ_lt (Int.mul_neg_of_pos_of_neg hk h)]
  · rw [h, Int.mul_zero]
  · rw [cmpZ_gt h, cmpZ_gt (Int.mul_pos hk h)]

/-- Adding the same on both sides keeps the order. -/
theorem cmp_add {p1 q1 p2 q2 p3 q3 s1 s2 t1 t2 : Int} (h1 : 1 ≤ q1) (h2 : 1 ≤ q2) (h3 : 1 ≤ q3) (hs : 1 ≤ s2) (ht : 1 ≤ t2) (e1 : s1 * (q1 * q3) = (p1 * q3 + p3 * q1) * s2) (e2 : t1 * (q2 * q3) = (p2 * q3 + p3 * q2) * t2) : cmpF s1 s2 t1 t2 = cmpF p1 q1 p2 q2 := by
  unfold cmpF
  have k1 : 0 < q1 * q3 * (q2 * q3) := Int.mul_pos (Int.mul_pos (by omega) (by omega)) (Int.mul_pos (by omega) (by omega))
  have k2 : 0 < s2 * t2 * (q3 * q3) := Int.mul_pos (Int.mul_pos (by omega) (by omega)) (Int.mul_pos (by omega) (by omega))
  have l1 : cmpZ (s1 * t2) (t1 * s2) = cmpZ (q1 * q3 * (q2 * q3) * (s1 * t2 - t1 * s2)) 0 := by rw [cmpZ_diff, cmpZ_scale k1]
  have l2 : cmpZ (p1 * q2) (p2 * q1) = cmpZ (s2 * t2 * (q3 * q3) * (p1 * q2 - p2 * q1)) 0 := by rw [cmpZ_diff, cmpZ_scale k2]
  have a1 : q1 * q3 * (q2 * q3) * (s1 * t2 - t1 * s2) = (s1 * (q1 * q3)) * (q2 * q3 * t2) - (t1 * (q2 * q3)) * (q1 * q3 * s2) := by grind
  have a2 : (p1 * q3 + p3 * q1) * s2 * (q2 * q3 * t2) - (p2 * q3 + p3 * q2) * t2 * (q1 * q3 * s2) = s2 * t2 * (q3 * q3) * (p1 * q2 - p2 * q1) := by grind
  rw [l1, l2, a1, e1, e2, a2]

theorem cmp_three (x y : Int) : cmpZ x y = -1 ∧ x < y ∨ cmpZ x y = 0 ∧ x = y ∨ cmpZ x y = 1 ∧ y < x := by
  rcases Int.lt_trichotomy x y with h | h | h
  · exact .inl ⟨cmpZ_lt h, h⟩
  · exact .inr (.inl ⟨cmpZ_eq h, h⟩)
  · exact .inr (.inr ⟨cmpZ_gt h, h⟩)

theorem gearOrder_walk (n1 d1 n2 d2 n3 d3 : Int) (hn1 : (-9223372036854775808 ≤ n1 ∧ n1 ≤ 9223372036854775807)) (hd1 : (-9223372036854775808 ≤ d1 ∧ d1 ≤ 9223372036854775807)) (hn2 : (-9223372036854775808 ≤ n2 ∧ n2 ≤ 9223372036854775807)) (hd2 : (-9223372036854775808 ≤ d2 ∧ d2 ≤ 9223372036854775807)) (hn3 : (-9223372036854775808 ≤ n3 ∧ n3 ≤ 9223372036854775807)) (hd3 : (-9223372036854775808 ≤ d3 ∧ d3 ≤ 9223372036854775807)) (w : World) :
    Calls Try.prog 9 #[.agg #[.int .i64 n1, .int .i64 d1], .agg #[.int .i64 n2, .int .i64 d2], .agg #[.int .i64 n3, .int .i64 d3]] w fun v w' => v = .returned (.bool true) ∧ Below w.heap.size w w' := by
  obtain ⟨p1, q1, o1, a1, b1, HT1⟩ := tame_any n1 d1 1000000 hn1 hd1 (by omega) (by omega)
  obtain ⟨p2, q2, o2, a2, b2, HT2⟩ := tame_any n2 d2 1000000 hn2 hd2 (by omega) (by omega)
  obtain ⟨p3, q3, o3, a3, b3, HT3⟩ := tame_any n3 d3 1000000 hn3 hd3 (by omega) (by omega)
  obtain ⟨s1, s2, os, es, HA1⟩ := add_rat o1 o3 (by omega) b1 (by omega) b3
  obtain ⟨t1, t2, ot, et, HA2⟩ := add_rat o2 o3 (by omega) b2 (by omega) b3
  have HC := fun (n d m e : Int) (h : okF n d) (k : okF m e) W => Lib.hid (cmpG_ok n d m e W h k)
  have h5 := cmp_add o1.1 o2.1 o3.1 os.1 ot.1 es et
  have HC5 := HC s1 s2 t1 t2 os ot
  simp only [h5] at HC5
  have u1 := o1.1
  have u2 := o2.1
  have u3 := o3.1
  by_cases he : p1 = p2 ∧ q1 = q2
  · obtain ⟨rfl, rfl⟩ := he
    have z1 : cmpF p1 q1 p1 q1 = 0 := cmpZ_eq rfl
    refine gearOrder_a n1 d1 n2 d2 n3 d3 p1 q1 p3 q3 0 0 (cmpF p1 q1 p3 q3) (cmpF p1 q1 p3 q3) s1 s2 t1 t2 w HT1 HT2 HT3 ?_ ?_ (HC _ _ _ _ o1 o3) (HC _ _ _ _ o1 o3) HA1 HA2 ?_ (Lib.hid ?_)
    · have := HC _ _ _ _ o1 o1
      simpa only [z1] using this
    · have := HC _ _ _ _ o1 o1
      simpa only [z1] using this
    · simpa only [z1] using HC5
    · unfold cmpF
      rcases cmp_three (p1 * q3) (p3 * q1) with ⟨h, _⟩ | ⟨h, _⟩ | ⟨h, _⟩
      · exact .inr (.inr ⟨rfl, rfl, h, h⟩)
      · exact .inr (.inl ⟨rfl, rfl, h, h⟩)
      · exact .inl ⟨rfl, rfl, h⟩
  · have HX : (cmpF p1 q1 p2 q2 = 1 ∧ cmpF p2 q2 p1 q1 = -1) ∨ (cmpF p1 q1 p2 q2 = -1 ∧ cmpF p2 q2 p1 q1 = 1 ∧ cmpF p2 q2 p3 q3 = 1) ∨ (cmpF p1 q1 p2 q2 = -1 ∧ cmpF p2 q2 p1 q1 = 1 ∧ cmpF p2 q2 p3 q3 = 0 ∧ cmpF p1 q1 p3 q3 = -1) ∨ (cmpF p1 q1 p2 q2 = -1 ∧ cmpF p2 q2 p1 q1 = 1 ∧ cmpF p2 q2 p3 q3 = -1 ∧ cmpF p1 q1 p3 q3 = -1) := by
      unfold cmpF
      rcases cmp_three (p1 * q2) (p2 * q1) with ⟨h, k⟩ | ⟨h, k⟩ | ⟨h, k⟩
      · have hm : p2 * q3 ≤ p3 * q2 → p1 * q3 < p3 * q1 := fun hle => by
          have c1 : p1 * q2 * q3 < p2 * q1 * q3 := Int.mul_lt_mul_of_pos_right k (by omega)
          have c2 : p2 * q3 * q1 ≤ p3 * q2 * q1 := Int.mul_le_mul_of_nonneg_right hle (by omega)
          refine Int.lt_of_mul_lt_mul_right (a := q2) ?_ (by omega)
          have c3 : p1 * q3 * q2 = p1 * q2 * q3 := Int.mul_right_comm _ _ _
          have c4 : p2 * q1 * q3 = p2 * q3 * q1 := Int.mul_right_comm _ _ _
          have c5 : p3 * q1 * q2 = p3 * q2 * q1 := Int.mul_right_comm _ _ _
          omega
        rcases cmp_three (p2 * q3) (p3 * q2) with ⟨h', k'⟩ | ⟨h', k'⟩ | ⟨h', k'⟩
        · exact .inr (.inr (.inr ⟨h, cmpZ_gt k, h', cmpZ_lt (hm (by omega))⟩))
        · exact .inr (.inr (.inl ⟨h, cmpZ_gt k, h', cmpZ_lt (hm (by omega))⟩))
        · exact .inr (.inl ⟨h, cmpZ_gt k, h'⟩)
      · exact absurd (ok_same o1 o2 k) he
      · exact .inl ⟨h, cmpZ_lt k⟩
    by_cases hp : p1 = p2
    · subst hp
      exact gearOrder_c n1 d1 n2 d2 n3 d3 p1 q1 q2 p3 q3 _ _ _ _ s1 s2 t1 t2 w (fun h => he ⟨rfl, h⟩) HT1 HT2 HT3 (HC _ _ _ _ o1 o2) (HC _ _ _ _ o2 o1) (HC _ _ _ _ o2 o3) (HC _ _ _ _ o1 o3) HA1 HA2 HC5 (Lib.hid HX)
    · exact gearOrder_b n1 d1 n2 d2 n3 d3 p1 q1 p2 q2 p3 q3 _ _ _ _ s1 s2 t1 t2 w hp HT1 HT2 HT3 (HC _ _ _ _ o1 o2) (HC _ _ _ _ o2 o1) (HC _ _ _ _ o2 o3) (HC _ _ _ _ o1 o3) HA1 HA2 HC5 (Lib.hid HX)

set_option maxRecDepth 100000 in
theorem gearOrder_lifted (os : Os) (started : os.Started) (H : Type) (enc : TypeId × Value → H) :
    ReturnsInHanded {} Try.checked os 9 .any (Rows.gearOrderSpec.pre6 enc Try.prog Try.f9 Rows.gearOrderRow.domain false) (Rows.gearOrderSpec.post enc Try.prog Try.f9 false true false false) := by
  refine returnsInHanded_of_change (C := Try.checked) law_own started (by kernel_rfl) Try.func9
    (ChangeSpec.witness6 (enc := enc) (C := Try.checked) false ⟨#[], #[.agg #[.int .i64 0, .int .i64 0], .agg #[.int .i64 0, .int .i64 0], .agg #[.int .i64 0, .int .i64 0]], []⟩ 8 (by kernel_rfl) (by kernel_rfl) (by kernel_rfl) (by kernel_rfl)) ?_
  intro W base args ds gs before hval0 hW hcnd _
  have hval : ∀ (j : Nat) t v, Try.f9.params[j]? = some t → args[j]? = some v → Value.okWide Try.prog W .any base t v := hval0
  have hW' := hW
  obtain ⟨p, q, hA0, hV, rfl, hfz, hnd⟩ := hW
  have hA : DataW.TrodAll enc Try.prog W 0 (fun _ => true) true Try.f9.params.toList args.toList ds p := hA0
  have hA1 := hA
  rw [Try.params9] at hA hval
  obtain ⟨v0, vs0, d0, ds0, p0, q0, hargs, rfl, rfl, h0, r0⟩ := trodAll_cons hA
  obtain ⟨v1, vs1, d1, ds1, p1, q1, rfl, rfl, rfl, h1, r1⟩ := trodAll_cons r0
  obtain ⟨v2, vs2, d2, ds2, p2, q2, rfl, rfl, rfl, h2, r2⟩ := trodAll_cons r1
  obtain ⟨rfl, rfl, rfl⟩ := trodAll_nil r2
  obtain rfl : args = #[v0, v1, v2] := by cases args; simp_all
  obtain ⟨rfl, rfl⟩ := trodVars_none hV
  obtain ⟨f0a, f0b, y0a, y0b, nn0, rfl, _, _, k0a, k0b⟩ := Joins.open_agg2 Try.underlying23 (by kernel_rfl) (by kernel_rfl) (hval 0 _ _ rfl rfl) h0
  obtain ⟨a0, rfl, w0⟩ := int_came k0a
  obtain ⟨b0, rfl, z0⟩ := int_came k0b
  obtain ⟨f1a, f1b, y1a, y1b, nn1, rfl, _, _, k1a, k1b⟩ := Joins.open_agg2 Try.underlying23 (by kernel_rfl) (by kernel_rfl) (hval 1 _ _ rfl rfl) h1
  obtain ⟨a1, rfl, w1⟩ := int_came k1a
  obtain ⟨b1, rfl, z1⟩ := int_came k1b
  obtain ⟨f2a, f2b, y2a, y2b, nn2, rfl, _, _, k2a, k2b⟩ := Joins.open_agg2 Try.underlying23 (by kernel_rfl) (by kernel_rfl) (hval 2 _ _ rfl rfl) h2
  obtain ⟨a2, rfl, w2⟩ := int_came k2a
  obtain ⟨b2, rfl, z2⟩ := int_came k2b
  simp only [List.append_nil] at hW' hA1
  refine (gearOrder_walk a0 b0 a1 b1 a2 b2  (wf_bd w0) (wf_bd z0) (wf_bd w1) (wf_bd z1) (wf_bd w2) (wf_bd z2) W).mono fun e W' ⟨he, hb⟩ => ?_
  subst he
  exact ⟨_, rfl, law_post hW' hA1 hb rfl (by kernel_rfl) rfl rfl⟩

/-- The statement. -/
theorem gearOrder_holds : Rows.GearOrderSaid :=
  OpenClaim.holds_of_wide 9 Try.f9 rfl rfl rfl rfl rfl rfl rfl ⟨rfl, rfl, rfl, rfl, rfl⟩ rfl rfl rfl rfl rfl (by kernel_rfl) Try.func9 (by kernel_rfl)
    (of_decide_eq_true (by kernel_rfl)) (by unfold Func.isWrapper; first | (rw [if_pos (by decide +kernel)]; kernel_rfl) | (rw [if_neg (by decide +kernel)]; exact ⟨rfl, rfl⟩))
    (fun os started H enc _ => gearOrder_lifted os started H enc)
#print axioms gearOrder_holds
end Go.Proofs.Ytoenimkgagndnaa
