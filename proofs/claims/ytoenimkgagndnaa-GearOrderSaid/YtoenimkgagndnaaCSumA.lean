/- gear.sum, Add, Sub, where the numerators' products fit one word. -/
import Derived.Test.YtoenimkgagndnaaCSum
import Derived.Test.YtoenimkgagndnaaCKnuth
import Derived.Test.YtoenimkgagndnaaGa
namespace Go.Proofs.Ytoenimkgagndnaa
set_option linter.unusedVariables false
set_option linter.unusedSimpArgs false
open Go.RowKit Go.Lib

theorem prod_small (x y z : Nat) (w : World) (hx : x ≤ 18446744073709551615) (hy : y ≤ 18446744073709551615) (hz : x * y = z) (hl : z ≤ 18446744073709551615) :
    Calls Try.prog 95 #[.int .u64 x, .int .u64 y] w fun v w' => v = .returned (.agg #[.int .u64 0, .int .u64 z]) ∧ Below w.heap.size w w' := by
  refine (product_any x y w (by omega) (by omega) (by omega) (by omega)).mono ?_
  rintro v w' ⟨rfl, hg⟩
  have e : (x : Int) * y = z := by rw [← hz]; simp
  rw [e, show (z : Int) / 18446744073709551616 = 0 by omega, show (z : Int) % 18446744073709551616 = z by omega]
  exact ⟨rfl, hg.below⟩

theorem mag_pos (n : Nat) (w : World) (h : n ≤ 4611686018427387904) : Calls Try.prog 53 #[.int .i64 n] w fun v w' => v = .returned (.int .u64 n) ∧ w = w' := by
  refine (mag_any n w (by omega) (by omega)).mono ?_
  rintro v w' ⟨rfl, h⟩
  exact ⟨by simp, by first | exact h | exact h.symm⟩
theorem mag_all (n : Int) (w : World) (h0 : -9223372036854775808 ≤ n) (h1 : n ≤ 9223372036854775807) : Calls Try.prog 53 #[.int .i64 n] w fun v w' => v = .returned (.int .u64 (n.natAbs : Nat)) ∧ w = w' := by
  refine (mag_any n w h0 h1).mono ?_
  rintro v w' ⟨rfl, h⟩
  exact ⟨rfl, by first | exact h | exact h.symm⟩

/-- The sign of a sum, as sum finds it. -/
theorem sum_sign {n m : Int} {x y L R : Nat} (hx : 1 ≤ x) (hy : 1 ≤ y) (hL : n.natAbs * x = L) (hR : m.natAbs * y = R) {t : Int} (ht : t = n * x + m * y) :
    (decide (n < 0) = decide (m < 0) → t.natAbs = L + R ∧ decide (n < 0) = decide (t < 0)) ∧
    (decide (n < 0) = (!decide (m < 0)) → (R ≤ L → t.natAbs = L - R ∧ (decide (n < 0) = decide (t < 0) ∨ t = 0)) ∧ (L < R → t.natAbs = R - L ∧ (!decide (n < 0)) = decide (t < 0))) := by
  have a1 : (n < 0 → n * x = -(L : Int)) ∧ (¬ n < 0 → n * x = L) := by
    refine ⟨fun h => ?_, fun h => ?_⟩
    · rw [← hL, Int.natCast_mul, show ((n.natAbs : Nat) : Int) = -n by omega, Int.neg_mul, Int.neg_neg]
    · rw [← hL, Int.natCast_mul, show ((n.natAbs : Nat) : Int) = n by omega]
  have a2 : (m < 0 → m * y = -(R : Int)) ∧ (¬ m < 0 → m * y = R) := by
    refine ⟨fun h => ?_, fun h => ?_⟩
    · rw [← hR, Int.natCast_mul, show ((m.natAbs : Nat) : Int) = -m by omega, Int.neg_mul, Int.neg_neg]
    · rw [← hR, Int.natCast_mul, show ((m.natAbs : Nat) : Int) = m by omega]
  have p1 : n < 0 → 1 ≤ L := fun h => by rw [← hL]; exact Nat.mul_pos (by omega) hx
  have p2 : m < 0 → 1 ≤ R := fun h => by rw [← hR]; exact Nat.mul_pos (by omega) hy
  rw [ht]
  generalize n * (x : Int) = u at *
  generalize m * (y : Int) = v at *
  by_cases h1 : n < 0 <;> by_cases h2 : m < 0
  · obtain rfl := a1.1 h1
    obtain rfl := a2.1 h2
    have := p1 h1
    simp only [h1, h2, decide_true, Bool.not_true]
    exact ⟨fun _ => ⟨by omega, (decide_eq_true (by omega)).symm⟩, fun h => (by cases h)⟩
  · obtain rfl := a1.1 h1
    obtain rfl := a2.2 h2
    simp only [h1, h2, decide_true, decide_false, Bool.not_false, Bool.not_true]
    refine ⟨fun h => (by cases h), fun _ => ⟨fun h => ⟨by omega, ?_⟩, fun h => ⟨by omega, (decide_eq_false (by omega)).symm⟩⟩⟩
    rcases Nat.eq_or_lt_of_le h with h | h
    · exact .inr (by omega)
    · exact .inl (decide_eq_true (by omega)).symm
  · obtain rfl := a1.2 h1
    obtain rfl := a2.1 h2
    simp only [h1, h2, decide_true, decide_false, Bool.not_false, Bool.not_true]
    refine ⟨fun h => (by cases h), fun _ => ⟨fun h => ⟨by omega, .inl (decide_eq_false (by omega)).symm⟩, fun h => ⟨by omega, (decide_eq_true (by omega)).symm⟩⟩⟩
  · obtain rfl := a1.2 h1
    obtain rfl := a2.2 h2
    simp only [h1, h2, decide_false, Bool.not_false]
    exact ⟨fun _ => ⟨by omega, (decide_eq_false (by omega)).symm⟩, fun h => (by cases h)⟩

set_option maxHeartbeats 1000000 in
/-- sum, where n·e and m·d together fit one word. -/
theorem sum_small (n m : Int) (dn en : Nat) (w : World) (ho : okF n dn) (ho' : okF m en) (hb : n.natAbs * en + m.natAbs * dn ≤ 18446744073709551615) :
    Calls Try.prog 77 #[.agg #[.int .i64 n, .int .i64 dn], .agg #[.int .i64 m, .int .i64 en]] w fun v w' => v = .returned (redV (decide (n * en + m * dn < 0)) (n * en + m * dn).natAbs (dn * en)) ∧ Below w.heap.size w w' := by
  obtain ⟨d1, d2, n1, n2, gn⟩ := ho
  obtain ⟨e1, e2, m1, m2, gm⟩ := ho'
  obtain ⟨g, hg⟩ : ∃ g, Nat.gcd dn en = g := ⟨_, rfl⟩
  obtain ⟨x, hx⟩ : ∃ x, en / g = x := ⟨_, rfl⟩
  obtain ⟨y, hy⟩ : ∃ y, dn / g = y := ⟨_, rfl⟩
  have ex : (en : Int) / (g : Int) = x := by rw [← hx]; exact (Int.natCast_ediv _ _).symm
  have ey : (dn : Int) / (g : Int) = y := by rw [← hy]; exact (Int.natCast_ediv _ _).symm
  obtain ⟨t, ht⟩ : ∃ t : Int, t = n * (x : Int) + m * (y : Int) := ⟨_, rfl⟩
  obtain ⟨c, hc⟩ : ∃ c, Nat.gcd t.natAbs g = c := ⟨_, rfl⟩
  have K := knuth (n := n) (m := m) (d := (dn : Int)) (e := (en : Int)) (by omega) (by omega) gn gm (g := g) (by rw [← hg]; rfl) (t := t) (by rw [ex, ey]; exact ht) hc
  obtain ⟨g1, c1, hs, hgc, dc, dg, eg, ct, cg⟩ := K
  simp only [Int.natAbs_natCast] at hgc
  have dg' : g ∣ dn := Int.natCast_dvd_natCast.1 dg
  have eg' : g ∣ en := Int.natCast_dvd_natCast.1 eg
  have dc' : c ∣ en := Int.natCast_dvd_natCast.1 dc
  obtain ⟨z, hz⟩ : ∃ z, en / c = z := ⟨_, rfl⟩
  obtain ⟨X, hX⟩ : ∃ X, t.natAbs / c = X := ⟨_, rfl⟩
  have ez : (en : Int) / (c : Int) = z := by rw [← hz]; exact (Int.natCast_ediv _ _).symm
  have lx : x ≤ en := by rw [← hx]; exact Nat.div_le_self _ _
  have ly : y ≤ dn := by rw [← hy]; exact Nat.div_le_self _ _
  have lz : z ≤ en := by rw [← hz]; exact Nat.div_le_self _ _
  have px : 1 ≤ x := by rw [← hx]; exact Nat.div_pos (Nat.le_of_dvd (by omega) eg') g1
  have py : 1 ≤ y := by rw [← hy]; exact Nat.div_pos (Nat.le_of_dvd (by omega) dg') g1
  have hgd : g ≤ dn := Nat.le_of_dvd (by omega) dg'
  have hcg : c ≤ g := Nat.le_of_dvd (by omega) cg
  obtain ⟨L, hL⟩ : ∃ L, n.natAbs * x = L := ⟨_, rfl⟩
  obtain ⟨R, hR⟩ : ∃ R, m.natAbs * y = R := ⟨_, rfl⟩
  have bL : L ≤ n.natAbs * en := by rw [← hL]; exact Nat.mul_le_mul_left _ lx
  have bR : R ≤ m.natAbs * dn := by rw [← hR]; exact Nat.mul_le_mul_left _ ly
  obtain ⟨T, hT⟩ : ∃ T, t.natAbs = T := ⟨_, rfl⟩
  obtain ⟨S1, S2⟩ := sum_sign px py hL hR ht
  have hTl : T ≤ L + R := by
    rw [← hT]
    by_cases h : decide (n < 0) = decide (m < 0)
    · rw [(S1 h).1]; exact Nat.le_refl _
    · have h' : decide (n < 0) = (!decide (m < 0)) := by
        revert h
        cases decide (n < 0) <;> cases decide (m < 0) <;> simp
      rcases Nat.lt_or_ge L R with hlt | hge
      · rw [((S2 h').2 hlt).1]; omega
      · rw [((S2 h').1 hge).1]; omega
  rw [hT] at hc hX ct S1 S2
  have lX : X ≤ T := by rw [← hX]; exact Nat.div_le_self _ _
  -- the lowest terms
  have ha : (n * en + m * dn).natAbs = g * T := by rw [hs, Int.natAbs_mul, Int.natAbs_natCast, hT]
  have hXa : X = (n * en + m * dn).natAbs / Nat.gcd (n * en + m * dn).natAbs (dn * en) := by
    rw [hgc, ha, Nat.mul_div_mul_left _ _ g1, hX]
  have hYb : y * z = dn * en / Nat.gcd (n * en + m * dn).natAbs (dn * en) := by
    rw [hgc]
    have q1 := Nat.div_mul_cancel dg'
    have q2 := Nat.div_mul_cancel dc'
    rw [hy] at q1
    rw [hz] at q2
    have e : dn * en = g * c * (y * z) := by
      conv => lhs; rw [← q1, ← q2]
      grind
    rw [e, Nat.mul_div_cancel_left _ (Nat.mul_pos g1 c1)]
  have lY : y * z ≤ 4611686018427387904 * 4611686018427387904 := Nat.mul_le_mul (by omega) (by omega)
  -- the sign
  have hneg : ∀ neg : Bool, (neg = decide (t < 0) ∨ t = 0) → redV neg (n * en + m * dn).natAbs (dn * en) = redV (decide (n * en + m * dn < 0)) (n * en + m * dn).natAbs (dn * en) := by
    rintro neg (h | h)
    · rw [h]
      congr 1
      rw [hs]
      by_cases h0 : t < 0
      · rw [decide_eq_true h0, decide_eq_true (Int.mul_neg_of_pos_of_neg (by omega) h0)]
      · rw [decide_eq_false h0, decide_eq_false (by have := Int.mul_nonneg (show (0 : Int) ≤ g by omega) (show 0 ≤ t by omega); omega)]
    · have h0 : (n * en + m * dn).natAbs = 0 := by rw [ha, ← hT, h]; simp
      rw [h0]
      exact red_zero _ _ _
  have H1 := fun neg W => fraction_red neg (n * en + m * dn).natAbs (dn * en) X (y * z) W hXa hYb (by omega) (by omega)
  have hq := show (0 ≤ cmpZ (L : Int) (R : Int) ↔ R ≤ L) by
    rcases Int.lt_trichotomy (L : Int) R with h | h | h
    · rw [cmpZ_lt h]; omega
    · rw [cmpZ_eq h]; omega
    · rw [cmpZ_gt h]; omega
  obtain ⟨neg, hn1, hn2, hn3, hn4⟩ : ∃ neg : Bool, (neg = decide (t < 0) ∨ t = 0) ∧ (decide (n < 0) = decide (m < 0) → neg = decide (n < 0)) ∧ (decide (n < 0) = (!decide (m < 0)) → R ≤ L → neg = decide (n < 0)) ∧ (decide (n < 0) = (!decide (m < 0)) → L < R → neg = (!decide (n < 0))) := by
    by_cases h : decide (n < 0) = decide (m < 0)
    · exact ⟨decide (n < 0), .inl (S1 h).2, fun _ => rfl, fun _ _ => rfl, fun h' => by rw [h] at h'; cases hm' : decide (m < 0) <;> rw [hm'] at h' <;> cases h'⟩
    · have h' : decide (n < 0) = (!decide (m < 0)) := by
        revert h
        cases decide (n < 0) <;> cases decide (m < 0) <;> simp
      rcases Nat.lt_or_ge L R with hlt | hge
      · exact ⟨!decide (n < 0), .inl ((S2 h').2 hlt).2, fun h0 => absurd h0 h, fun _ h0 => by omega, fun _ _ => rfl⟩
      · exact ⟨decide (n < 0), ((S2 h').1 hge).2, fun _ => rfl, fun _ _ => rfl, fun _ h0 => by omega⟩
  obtain ⟨p1, p2, p3, hr⟩ := red_form neg (n * en + m * dn).natAbs (dn * en)
  have HF := H1 neg
  rw [hr] at HF
  rw [← hneg neg hn1, hr]
  have cyz : ((y * z : Nat) : Int) = (y : Int) * z := Int.natCast_mul _ _
  rw [cyz] at HF
  have eX : ∀ W, Calls Try.prog 55 #[.bool neg, .agg #[.int .u64 0, .int .u64 X], .agg #[.int .u64 ((y : Int) * z / 18446744073709551616), .int .u64 ((y : Int) * z % 18446744073709551616)]] W fun v w' => v = .returned (.tuple #[.agg #[.int .i64 p1, .int .i64 p2], .int .i64 p3]) ∧ Below W.heap.size W w' := by
    intro W
    have := HF W
    rw [show ((X : Nat) : Int) / 18446744073709551616 = 0 by omega, show ((X : Nat) : Int) % 18446744073709551616 = X by omega] at this
    exact this.mono fun _ _ ⟨a, b⟩ => ⟨a, b.below⟩
  refine sum_walk n dn m en (n.natAbs : Nat) (m.natAbs : Nat) g x y L R T ((T % g : Nat) : Int) c X z ((y : Int) * z / 18446744073709551616) ((y : Int) * z % 18446744073709551616) p1 p2 p3 (cmpZ L R) (decide (n < 0)) (decide (m < 0)) (decide (0 ≤ cmpZ (L : Int) R)) neg w
    (fun W => Lib.hid (mag_all n W (by omega) (by omega))) (fun W => Lib.hid (mag_all m W (by omega) (by omega))) (fun W => Lib.hid (mag_pos dn W (by omega))) (fun W => Lib.hid (mag_pos en W (by omega)))
    (fun W => Lib.hid ((gcd_gro dn en W (by omega) (by omega)).mono fun _ _ ⟨a, b⟩ => ⟨by rw [a, hg], b.below⟩)) (by omega) (by omega)
    ((Int.tdiv_eq_ediv_of_nonneg (by omega)).trans ex) ex (IntWalk.u64_in _ (by omega)) ((Int.tdiv_eq_ediv_of_nonneg (by omega)).trans ey) ey (IntWalk.u64_in _ (by omega)) ((Int.tdiv_eq_ediv_of_nonneg (by omega)).trans ez) ez (IntWalk.u64_in _ (by omega))
    (fun W => Lib.hid (prod_small _ _ _ W (by omega) (by omega) hL (by omega))) (fun W => Lib.hid (prod_small _ _ _ W (by omega) (by omega) hR (by omega)))
    rfl rfl (fun h => ⟨hn2 h, fun W => Lib.hid ?_⟩) (fun W => Lib.hid ?_) rfl (fun h hs => ⟨hn3 h ?_, fun W => Lib.hid ?_⟩) (fun h hs => ⟨hn4 h ?_, fun W => Lib.hid ?_⟩)
    (fun W => Lib.hid ?_) (fun W => Lib.hid ?_) (fun W => Lib.hid ?_) (fun W => Lib.hid ?_) (fun W => Lib.hid (eX W))
  · refine (plus_low L R W (by omega) (by omega) (by omega)).mono fun _ _ ⟨a, b⟩ => ⟨?_, b⟩
    rw [a, show (L : Int) + R = T by have := (S1 h).1; omega]
  · refine (wcmp_any 0 L 0 R W (by omega) (by omega) (by omega) (by omega) (by omega) (by omega) (by omega) (by omega)).mono fun _ _ ⟨a, b⟩ => ⟨?_, b.below⟩
    rw [a, show wv 0 (L : Int) = L by unfold wv; omega, show wv 0 (R : Int) = R by unfold wv; omega]
  · exact hq.1 (of_decide_eq_true hs)
  · have hl := hq.1 (of_decide_eq_true hs)
    refine (minus_low L R W (by omega) (by omega) (by omega)).mono fun _ _ ⟨a, b⟩ => ⟨?_, b⟩
    rw [a, show (L : Int) - R = T by have := ((S2 h).1 hl).1; omega]
  · have := of_decide_eq_false hs
    omega
  · have hl : L < R := by have := of_decide_eq_false hs; omega
    refine (minus_low R L W (by omega) (by omega) (by omega)).mono fun _ _ ⟨a, b⟩ => ⟨?_, b⟩
    rw [a, show (R : Int) - L = T by have := ((S2 h).2 hl).1; omega]
  · refine (rest_low T g W (by omega) (by omega) (by omega) (by omega)).mono fun _ _ ⟨a, b⟩ => ⟨?_, b.below⟩
    rw [a]
    simp
  · refine (gcd_gro (T % g) g W (by have := Nat.mod_lt T g1; omega) (by omega)).mono fun _ _ ⟨a, b⟩ => ⟨?_, b.below⟩
    rw [a, ← Nat.gcd_rec, Nat.gcd_comm, hc]
  · refine (over_low T c W (by omega) (by omega) (by omega) (by omega)).mono fun _ _ ⟨a, b⟩ => ⟨?_, b⟩
    rw [a, ← hX]
    simp
  · exact (product_any y z W (by omega) (by omega) (by omega) (by omega)).mono fun _ _ ⟨a, b⟩ => ⟨a, b.below⟩
end Go.Proofs.Ytoenimkgagndnaa
