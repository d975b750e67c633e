/- Texts that gearBest_holds reaches: Opt, RLim, Narrow, Dig, Z, Sizes. -/
import Derived.Test.YtoenimkgagndnaaBg
import Derived.Test.YtoenimkgagndnaaBf
import Derived.Test.YtoenimkgagndnaaBj
import Derived.Test.YtoenimkgagndnaaBe
import Derived.Test.YtoenimkgagndnaaBi
namespace Go.Proofs.Ytoenimkgagndnaa
set_option linter.unusedVariables false
set_option linter.unusedSimpArgs false
open Go.RowKit Go.Shelf Go.Lib Go.Sort

/-- The side of a list of teeth; the teeth of a side. -/
def sideOf (xs : List Int) : Side := ⟨xs.getD 0 0, xs.getD 1 0, xs.getD 2 0, prodL xs, sumL xs⟩
def Side.teeth (x : Side) (k : Nat) : List Int := [x.a, x.b, x.c].take k

theorem gen_step {low high : Int} {r : Bool} {k : Nat} {x : Side} (hx : x ∈ gen low high r k) {t : Int} (h1 : fromOf low r k x ≤ t) (h2 : t ≤ toOf high r k x) : x.with k t ∈ gen low high r (k + 1) := by
  refine List.mem_flatMap.2 ⟨x, hx, List.mem_map.2 ⟨(t - fromOf low r k x).toNat, List.mem_range.2 (by omega), ?_⟩⟩
  congr 1
  omega

/-- Lists of one to three numbers. -/
theorem list3 {xs : List Int} {n : Nat} (h : xs.length = n) (h1 : 1 ≤ n) (h3 : n ≤ 3) : (n = 1 ∧ ∃ a, xs = [a]) ∨ (n = 2 ∧ ∃ a b, xs = [a, b]) ∨ (n = 3 ∧ ∃ a b c, xs = [a, b, c]) := by
  match xs, h with
  | [], h => simp at h; omega
  | [a], h => exact .inl ⟨by simpa using h.symm, a, rfl⟩
  | [a, b], h => exact .inr (.inl ⟨by simpa using h.symm, a, b, rfl⟩)
  | [a, b, c], h => exact .inr (.inr ⟨by simpa using h.symm, a, b, c, rfl⟩)
  | _ :: _ :: _ :: _ :: _, h => simp at h; omega

/-- The order of the teeth on one side. -/
def Mono (r : Bool) (xs : List Int) : Prop := ∀ i, 0 < i → i < xs.length → if r = true then xs.getD (i - 1) 0 ≤ xs.getD i 0 else xs.getD i 0 ≤ xs.getD (i - 1) 0

theorem gen_has {low high : Int} {r : Bool} {xs : List Int} {n : Nat} (hl : xs.length = n) (h1 : 1 ≤ n) (h3 : n ≤ 3) (hb : ∀ i, i < n → low ≤ xs.getD i 0 ∧ xs.getD i 0 ≤ high) (hm : Mono r xs) : sideOf xs ∈ gen low high r n := by
  have g0 : (⟨0, 0, 0, 1, 0⟩ : Side) ∈ gen low high r 0 := by simp [gen]
  have s1 : ∀ a, low ≤ a → a ≤ high → (⟨a, 0, 0, a, a⟩ : Side) ∈ gen low high r 1 := fun a k1 k2 => by
    have := gen_step (t := a) g0 (by simpa [fromOf] using k1) (by simpa [toOf] using k2)
    simpa [Side.with] using this
  have s2 : ∀ a b, low ≤ a → a ≤ high → low ≤ b → b ≤ high → (if r = true then a ≤ b else b ≤ a) → (⟨a, b, 0, a * b, a + b⟩ : Side) ∈ gen low high r 2 := fun a b k1 k2 k3 k4 k5 => by
    have := gen_step (t := b) (s1 a k1 k2) (by cases r <;> simp_all [fromOf, Side.tooth]) (by cases r <;> simp_all [toOf, Side.tooth])
    simpa [Side.with] using this
  have s3 : ∀ a b c, low ≤ a → a ≤ high → low ≤ b → b ≤ high → low ≤ c → c ≤ high → (if r = true then a ≤ b else b ≤ a) → (if r = true then b ≤ c else c ≤ b) → (⟨a, b, c, a * b * c, a + b + c⟩ : Side) ∈ gen low high r 3 := fun a b c k1 k2 k3 k4 k5 k6 k7 k8 => by
    have := gen_step (t := c) (s2 a b k1 k2 k3 k4 k7) (by cases r <;> simp_all [fromOf, Side.tooth]) (by cases r <;> simp_all [toOf, Side.tooth])
    simpa [Side.with] using this
  rcases list3 hl h1 h3 with ⟨rfl, a, rfl⟩ | ⟨rfl, a, b, rfl⟩ | ⟨rfl, a, b, c, rfl⟩
  · have b0 := hb 0 (by omega)
    simp at b0
    have := s1 a b0.1 b0.2
    simpa [sideOf, prodL, sumL] using this
  · have b0 := hb 0 (by omega)
    have b1 := hb 1 (by omega)
    have m1 := hm 1 (by omega) (by simp)
    simp at b0 b1 m1
    have := s2 a b b0.1 b0.2 b1.1 b1.2 m1
    simpa [sideOf, prodL, sumL] using this
  · have b0 := hb 0 (by omega)
    have b1 := hb 1 (by omega)
    have b2 := hb 2 (by omega)
    have m1 := hm 1 (by omega) (by simp)
    have m2 := hm 2 (by omega) (by simp)
    simp at b0 b1 b2 m1 m2
    have := s3 a b c b0.1 b0.2 b1.1 b1.2 b2.1 b2.2 m1 m2
    simpa [sideOf, prodL, sumL] using this

theorem gen3 {low high : Int} {r : Bool} {s : Side} (h : s ∈ gen low high r 3) : ∃ a b c, low ≤ a ∧ a ≤ high ∧ (r = true → a ≤ b ∧ b ≤ c ∧ c ≤ high) ∧ (r = false → low ≤ c ∧ c ≤ b ∧ b ≤ a) ∧ s = ⟨a, b, c, a * b * c, a + b + c⟩ := by
  have h' : s ∈ (gen low high r 2).flatMap (ext low high r 2) := h
  obtain ⟨y, hy, h⟩ := List.mem_flatMap.1 h'
  obtain ⟨a, b, h1, h2, h3, h4, rfl⟩ := gen2 hy
  simp only [ext, extTo, List.mem_map, List.mem_range] at h
  obtain ⟨i, hi, rfl⟩ := h
  cases r
  · have e1 : fromOf low false 2 ⟨a, b, 0, a * b, a + b⟩ = low := by simp [fromOf]
    have e2 : toOf high false 2 ⟨a, b, 0, a * b, a + b⟩ = b := by simp [toOf, Side.tooth]
    rw [e1, e2] at hi
    rw [e1]
    have := h4 rfl
    exact ⟨a, b, low + i, h1, h2, fun h => (by cases h), fun _ => by omega, by simp [Side.with]⟩
  · have e1 : fromOf low true 2 ⟨a, b, 0, a * b, a + b⟩ = b := by simp [fromOf, Side.tooth]
    have e2 : toOf high true 2 ⟨a, b, 0, a * b, a + b⟩ = high := by simp [toOf]
    rw [e1, e2] at hi
    rw [e1]
    have := h3 rfl
    exact ⟨a, b, b + i, h1, h2, fun _ => by omega, fun h => (by cases h), by simp [Side.with]⟩

theorem gen_is {low high : Int} {r : Bool} {s : Side} {n : Nat} (h1 : 1 ≤ n) (h3 : n ≤ 3) (h : s ∈ gen low high r n) :
    (s.teeth n).length = n ∧ s = sideOf (s.teeth n) ∧ (∀ i, i < n → low ≤ (s.teeth n).getD i 0 ∧ (s.teeth n).getD i 0 ≤ high) ∧ Mono r (s.teeth n) := by
  rcases (show n = 1 ∨ n = 2 ∨ n = 3 by omega) with rfl | rfl | rfl
  · obtain ⟨a, k1, k2, rfl⟩ := gen1 h
    refine ⟨rfl, by simp [sideOf, Side.teeth, prodL, sumL], ?_, ?_⟩
    · intro i hi
      obtain rfl : i = 0 := by omega
      simpa [Side.teeth] using ⟨k1, k2⟩
    · intro i h0 hi
      simp [Side.teeth] at hi
      omega
  · obtain ⟨a, b, k1, k2, k3, k4, rfl⟩ := gen2 h
    refine ⟨rfl, by simp [sideOf, Side.teeth, prodL, sumL], ?_, ?_⟩
    · intro i hi
      rcases (show i = 0 ∨ i = 1 by omega) with rfl | rfl
      · simpa [Side.teeth] using ⟨k1, k2⟩
      · cases r
        · have := k4 rfl; simp [Side.teeth]; omega
        · have := k3 rfl; simp [Side.teeth]; omega
    · intro i h0 hi
      simp [Side.teeth] at hi
      obtain rfl : i = 1 := by omega
      cases r
      · simpa [Side.teeth] using (k4 rfl).2
      · simpa [Side.teeth] using (k3 rfl).1
  · obtain ⟨a, b, c, k1, k2, k3, k4, rfl⟩ := gen3 h
    refine ⟨rfl, by simp [sideOf, Side.teeth, prodL, sumL], ?_, ?_⟩
    · intro i hi
      rcases (show i = 0 ∨ i = 1 ∨ i = 2 by omega) with rfl | rfl | rfl
      · simpa [Side.teeth] using ⟨k1, k2⟩
      · cases r
        · have := k4 rfl; simp [Side.teeth]; omega
        · have := k3 rfl; simp [Side.teeth]; omega
      · cases r
        · have := k4 rfl; simp [Side.teeth]; omega
        · have := k3 rfl; simp [Side.teeth]; omega
    · intro i h0 hi
      simp [Side.teeth] at hi
      rcases (show i = 1 ∨ i = 2 by omega) with rfl | rfl
      · cases r
        · simpa [Side.teeth] using (k4 rfl).2.2
        · simpa [Side.teeth] using (k3 rfl).1
      · cases r
        · simpa [Side.teeth] using (k4 rfl).2.1
        · simpa [Side.teeth] using (k3 rfl).2.1

theorem firstF1 (a a' : Int) : (firstF [a] [a'] < 0 ↔ a < a') ∧ (firstF [a] [a'] ≠ 0 ↔ a ≠ a') := by
  simp only [firstF]; split <;> omega
theorem firstF2 (a b a' b' : Int) : (firstF [a, b] [a', b'] < 0 ↔ a < a' ∨ (a = a' ∧ b < b')) ∧ (firstF [a, b] [a', b'] ≠ 0 ↔ (a ≠ a' ∨ b ≠ b')) := by
  simp only [firstF]; split <;> (try split) <;> omega
theorem firstF3 (a b c a' b' c' : Int) : (firstF [a, b, c] [a', b', c'] < 0 ↔ a < a' ∨ (a = a' ∧ (b < b' ∨ (b = b' ∧ c < c')))) ∧ (firstF [a, b, c] [a', b', c'] ≠ 0 ↔ (a ≠ a' ∨ b ≠ b' ∨ c ≠ c')) := by
  simp only [firstF]; split <;> (try split) <;> (try split) <;> omega

/-- The reference's order of trains is the search's. -/
theorem better_lt {xs ys xs' ys' : List Int} {n m : Nat} (hn : 1 ≤ n) (hn3 : n ≤ 3) (hm : 1 ≤ m) (hm3 : m ≤ 3) (h1 : xs.length = n) (h2 : ys.length = n) (h3 : xs'.length = m) (h4 : ys'.length = m) :
    betterB xs ys xs' ys' = true ↔ Tr.lt ⟨n, sideOf xs, sideOf ys⟩ ⟨m, sideOf xs', sideOf ys'⟩ := by
  unfold betterB Tr.lt
  rw [h1, h3]
  by_cases e : n = m
  · subst e
    rw [if_neg (by simp)]
    rcases (show n = 1 ∨ n = 2 ∨ n = 3 by omega) with rfl | rfl | rfl
    · obtain ⟨_, a, rfl⟩ : _ ∧ ∃ a, xs = [a] := by rcases list3 h1 hn hn3 with h | h | h <;> first | exact h | (exact absurd h.1 (by decide))
      obtain ⟨_, b, rfl⟩ : _ ∧ ∃ a, ys = [a] := by rcases list3 h2 hn hn3 with h | h | h <;> first | exact h | (exact absurd h.1 (by decide))
      obtain ⟨_, a', rfl⟩ : _ ∧ ∃ a, xs' = [a] := by rcases list3 h3 hn hn3 with h | h | h <;> first | exact h | (exact absurd h.1 (by decide))
      obtain ⟨_, b', rfl⟩ : _ ∧ ∃ a, ys' = [a] := by rcases list3 h4 hn hn3 with h | h | h <;> first | exact h | (exact absurd h.1 (by decide))
      have f1 := firstF1 a a'
      have f2 := firstF1 b b'
      simp only [sideOf, List.getD_cons_zero, List.getD_cons_succ, List.getD_nil, Int.lt_irrefl, or_false, and_false, true_and, false_or]
      generalize sumL [a] = s1
      generalize sumL [b] = s2
      generalize sumL [a'] = s3
      generalize sumL [b'] = s4
      generalize firstF [a] [a'] = g1 at *
      generalize firstF [b] [b'] = g2 at *
      split
      · rw [decide_eq_true_iff]; omega
      · split
        · rw [decide_eq_true_iff]; omega
        · rw [decide_eq_true_iff]; omega
    · obtain ⟨_, a, b, rfl⟩ : _ ∧ ∃ a b, xs = [a, b] := by rcases list3 h1 hn hn3 with h | h | h <;> first | exact h | (exact absurd h.1 (by decide))
      obtain ⟨_, c, d, rfl⟩ : _ ∧ ∃ a b, ys = [a, b] := by rcases list3 h2 hn hn3 with h | h | h <;> first | exact h | (exact absurd h.1 (by decide))
      obtain ⟨_, a', b', rfl⟩ : _ ∧ ∃ a b, xs' = [a, b] := by rcases list3 h3 hn hn3 with h | h | h <;> first | exact h | (exact absurd h.1 (by decide))
      obtain ⟨_, c', d', rfl⟩ : _ ∧ ∃ a b, ys' = [a, b] := by rcases list3 h4 hn hn3 with h | h | h <;> first | exact h | (exact absurd h.1 (by decide))
      have f1 := firstF2 a b a' b'
      have f2 := firstF2 c d c' d'
      simp only [sideOf, List.getD_cons_zero, List.getD_cons_succ, List.getD_nil, Int.lt_irrefl, or_false, and_false, true_and, false_or]
      generalize sumL [a, b] = s1
      generalize sumL [c, d] = s2
      generalize sumL [a', b'] = s3
      generalize sumL [c', d'] = s4
      generalize firstF [a, b] [a', b'] = g1 at *
      generalize firstF [c, d] [c', d'] = g2 at *
      split
      · rw [decide_eq_true_iff]; omega
      · split
        · rw [decide_eq_true_iff]; omega
        · rw [decide_eq_true_iff]; omega
    · obtain ⟨_, a, b, u, rfl⟩ : _ ∧ ∃ a b c, xs = [a, b, c] := by rcases list3 h1 hn hn3 with h | h | h <;> first | exact h | (exact absurd h.1 (by decide))
      obtain ⟨_, c, d, v, rfl⟩ : _ ∧ ∃ a b c, ys = [a, b, c] := by rcases list3 h2 hn hn3 with h | h | h <;> first | exact h | (exact absurd h.1 (by decide))
      obtain ⟨_, a', b', u', rfl⟩ : _ ∧ ∃ a b c, xs' = [a, b, c] := by rcases list3 h3 hn hn3 with h | h | h <;> first | exact h | (exact absurd h.1 (by decide))
      obtain ⟨_, c', d', v', rfl⟩ : _ ∧ ∃ a b c, ys' = [a, b, c] := by rcases list3 h4 hn hn3 with h | h | h <;> first | exact h | (exact absurd h.1 (by decide))
      have f1 := firstF3 a b u a' b' u'
      have f2 := firstF3 c d v c' d' v'
      simp only [sideOf, List.getD_cons_zero, List.getD_cons_succ, Int.lt_irrefl, true_and, false_or]
      generalize sumL [a, b, u] = s1
      generalize sumL [c, d, v] = s2
      generalize sumL [a', b', u'] = s3
      generalize sumL [c', d', v'] = s4
      generalize firstF [a, b, u] [a', b', u'] = g1 at *
      generalize firstF [c, d, v] [c', d', v'] = g2 at *
      split
      · rw [decide_eq_true_iff]; omega
      · split
        · rename_i h; rw [decide_eq_true_iff, f1.1]; rw [f1.2] at h; omega
        · rename_i h; rw [decide_eq_true_iff, f2.1]; rw [f1.2] at h; omega
  · rw [if_pos (by omega), decide_eq_true_iff]
    simp only
    omega

/-- A train of sides that are not behind is not behind. -/
theorem lt_of_sides {n : Int} {x y sx sy : Side} {b : Tr} (hp : x.p = sx.p) (hx : ¬ sx.lt x) (hq : y.p = sy.p) (hy : ¬ sy.lt y) (h : Tr.lt ⟨n, sx, sy⟩ b) : Tr.lt ⟨n, x, y⟩ b := by
  obtain ⟨bn, bw, bp⟩ := b
  obtain ⟨a1, a2, a3, a4, a5⟩ := x
  obtain ⟨b1, b2, b3, b4, b5⟩ := y
  obtain ⟨c1, c2, c3, c4, c5⟩ := sx
  obtain ⟨d1, d2, d3, d4, d5⟩ := sy
  obtain ⟨e1, e2, e3, e4, e5⟩ := bw
  obtain ⟨f1, f2, f3, f4, f5⟩ := bp
  simp only at hp hq
  subst hp hq
  unfold Side.lt at hx hy
  unfold Tr.lt at *
  simp only at *
  simp only [Int.lt_irrefl, false_or, true_and] at hx hy
  have hx' : a5 < c5 ∨ (a5 = c5 ∧ (a1 < c1 ∨ (a1 = c1 ∧ (a2 < c2 ∨ (a2 = c2 ∧ a3 ≤ c3))))) := by omega
  have hy' : b5 < d5 ∨ (b5 = d5 ∧ (b1 < d1 ∨ (b1 = d1 ∧ (b2 < d2 ∨ (b2 = d2 ∧ b3 ≤ d3))))) := by omega
  clear hx hy
  rcases h with h | ⟨rfl, h⟩
  · exact .inl h
  · refine .inr ⟨rfl, ?_⟩
    rcases h with h | ⟨h0, h⟩
    · left; omega
    · rcases hx' with hx | ⟨rfl, hx⟩
      · left; omega
      · rcases hy' with hy | ⟨rfl, hy⟩
        · left; omega
        · refine .inr ⟨h0, ?_⟩
          clear h0
          rcases hx with hx | ⟨rfl, hx | ⟨rfl, hx⟩⟩
          · left; omega
          · rcases h with h | ⟨rfl, h⟩
            · exact .inl h
            · refine .inr ⟨rfl, ?_⟩
              left; omega
          · rcases h with h | ⟨rfl, h | ⟨rfl, h⟩⟩
            · exact .inl h
            · exact .inr ⟨rfl, .inl h⟩
            · refine .inr ⟨rfl, .inr ⟨rfl, ?_⟩⟩
              rcases (show a3 < c3 ∨ a3 = c3 by omega) with hx | rfl
              · left; omega
              · rcases h with h | ⟨rfl, h⟩
                · exact .inl h
                · refine .inr ⟨rfl, ?_⟩
                  omega

/-- The ratio of a train is the target, if it is so as a product. -/
theorem isR_of {tn td : Int} (hg : Int.gcd tn td = 1) (htd : 1 ≤ td) {t : Tr} (hp : 1 ≤ t.p.p) (h : t.w.p * td = tn * t.p.p) : isR tn td t = true := by
  obtain ⟨n, w, p⟩ := t
  simp only at hp h
  have d1 : td ∣ p.p := by
    have : td ∣ tn * p.p := ⟨w.p, by rw [← h]; exact Int.mul_comm _ _⟩
    have h2 : td.natAbs ∣ tn.natAbs * p.p.natAbs := by rw [← Int.natAbs_mul]; exact Int.natAbs_dvd_natAbs.2 this
    exact Int.natAbs_dvd_natAbs.1 (Nat.Coprime.dvd_of_dvd_mul_left (by rw [Nat.coprime_comm]; exact hg) h2)
  obtain ⟨q, hq⟩ := d1
  have hw : w.p = tn * q := by
    rw [hq, Int.mul_left_comm, Int.mul_comm w.p] at h
    exact Int.eq_of_mul_eq_mul_left (by omega) h
  have q1 : 1 ≤ q := by
    rcases Int.lt_or_le q 1 with k | k
    · have : td * q ≤ 0 := Int.mul_nonpos_of_nonneg_of_nonpos (by omega) (by omega)
      omega
    · exact k
  have e : Int.gcd w.p p.p = q.natAbs := by
    rw [hw, hq, Int.gcd_mul_right, hg, Nat.one_mul]
  have e2 : ((q.natAbs : Nat) : Int) = q := by omega
  unfold isR quoN quoD
  simp only
  rw [e, e2, hw, hq, Int.mul_ediv_cancel _ (by omega), Int.mul_ediv_cancel _ (by omega)]
  simp

theorem bestS_has {tn td wl wh pl ph k : Int} (hF : Fine tn td wl wh pl ph k) {st : Nat} (h1 : 1 ≤ st) (h3 : st ≤ 3) {sx sy : Side} (hx : sx ∈ gen wl wh false st) (hy : sy ∈ gen pl ph true st) (he : sx.p * td = tn * sy.p) :
    1 ≤ (bestS tn td wl wh pl ph st).n ∧ ¬ Tr.lt ⟨st, sx, sy⟩ (bestS tn td wl wh pl ph st) := by
  obtain ⟨x, mx, px, lx⟩ := sidesL_rep hx
  obtain ⟨y, my, py, ly⟩ := sidesL_rep hy
  unfold ltOf at lx ly
  rw [decide_eq_false_iff_not, cmpS_lt] at lx ly
  have he' : x.p * td = tn * y.p := by rw [px, py]; exact he
  have hm := trains_exact (st := st) (sidesL_strict wl wh st false) hF.td1 mx my he'
  have hr : isR tn td ⟨(st : Int), x, y⟩ = true := isR_of hF.gcd hF.td1 (sidesL_p hF.p1 hF.p2 hF.p3 h3 my).1 he'
  rcases bestS_pick (tn := tn) (td := td) (wl := wl) (wh := wh) (pl := pl) (ph := ph) h1 with ⟨_, _, h⟩ | ⟨hn, _, _, h⟩
  · rw [h _ hm] at hr; cases hr
  · refine ⟨hn, fun hlt => ?_⟩
    have := lt_of_sides px lx py ly hlt
    rw [← betF_iff, h _ hm hr] at this
    cases this

theorem exS_spec (tn td wl wh pl ph : Int) : ∀ (m st : Nat),
    ((exS tn td wl wh pl ph m st).n < 1 ∧ ∀ s, st ≤ s → s < st + m → (bestS tn td wl wh pl ph s).n < 1) ∨
    ∃ s, st ≤ s ∧ s < st + m ∧ exS tn td wl wh pl ph m st = bestS tn td wl wh pl ph s ∧ 1 ≤ (bestS tn td wl wh pl ph s).n ∧ ∀ s', st ≤ s' → s' < s → (bestS tn td wl wh pl ph s').n < 1
  | 0, st => .inl ⟨by simp [exS, zeroTr], fun s h1 h2 => by omega⟩
  | m + 1, st => by
    by_cases h : (bestS tn td wl wh pl ph st).n < 1
    · rw [show exS tn td wl wh pl ph (m + 1) st = exS tn td wl wh pl ph m (st + 1) by rw [exS, if_pos h]]
      have hs : ∀ s, st ≤ s → s ≠ st → st + 1 ≤ s := fun s _ _ => by omega
      rcases exS_spec tn td wl wh pl ph m (st + 1) with ⟨h1, h2⟩ | ⟨s, h1, h2, h3, h4, h5⟩
      · refine .inl ⟨h1, fun s k1 k2 => ?_⟩
        by_cases e : s = st
        · rw [e]; exact h
        · exact h2 s (hs s k1 e) (by omega)
      · refine .inr ⟨s, by omega, by omega, h3, h4, fun s' k1 k2 => ?_⟩
        by_cases e : s' = st
        · rw [e]; exact h
        · exact h5 s' (hs s' k1 e) k2
    · exact .inr ⟨st, Nat.le_refl _, by omega, by rw [exS, if_neg h], by omega, fun s' k1 k2 => by omega⟩

theorem fit_gen {xs ys : List Int} {a b c d k : Int} (h : FitP xs ys a b c d k) (hk : k ≤ 3) : 1 ≤ xs.length ∧ xs.length ≤ 3 ∧ ys.length = xs.length ∧ sideOf xs ∈ gen a b false xs.length ∧ sideOf ys ∈ gen c d true xs.length := by
  obtain ⟨⟨⟨h1, h2⟩, h3, _, _⟩, hi⟩ := h
  refine ⟨h1, by omega, h3, gen_has rfl h1 (by omega) (fun i k => (hi i k).1) ?_, gen_has h3 h1 (by omega) (fun i k => (hi i k).2.1) ?_⟩
  · intro i i0 k
    simpa using ((hi i k).2.2 i0).1
  · intro i i0 k
    rw [h3] at k
    simpa using ((hi i k).2.2 i0).2

/-- What the search finds is a train of the ratio that fits, and none is better; if it finds none there is none. -/
theorem exS_good {tn td wl wh pl ph k : Int} (hF : Fine tn td wl wh pl ph k) {T : Tr} (hT : exS tn td wl wh pl ph k.toNat 1 = T) :
    (T.n < 1 → ∀ xs ys, FitP xs ys wl wh pl ph k → prodL xs * td ≠ tn * prodL ys) ∧
    ∀ st : Nat, T.n = st → 1 ≤ st → FitP (T.w.teeth st) (T.p.teeth st) wl wh pl ph k ∧ prodL (T.w.teeth st) * td = tn * prodL (T.p.teeth st) ∧
      (∀ xs ys, FitP xs ys wl wh pl ph k → prodL xs * td = tn * prodL ys → betterB xs ys (T.w.teeth st) (T.p.teeth st) = false) ∧ (T.w.teeth st).length = st ∧ (T.p.teeth st).length = st := by
  have k1 := hF.k1
  have k3 := hF.k3
  have key : ∀ xs ys, FitP xs ys wl wh pl ph k → prodL xs * td = tn * prodL ys → 1 ≤ (bestS tn td wl wh pl ph xs.length).n ∧ ¬ Tr.lt ⟨xs.length, sideOf xs, sideOf ys⟩ (bestS tn td wl wh pl ph xs.length) := by
    intro xs ys hf he
    obtain ⟨l1, l3, l2, g1, g2⟩ := fit_gen hf k3
    exact bestS_has hF l1 l3 g1 g2 he
  have hlen : ∀ xs ys, FitP xs ys wl wh pl ph k → 1 ≤ xs.length ∧ xs.length < 1 + k.toNat := fun xs ys hf => by
    have := hf.1.1
    omega
  subst hT
  rcases exS_spec tn td wl wh pl ph k.toNat 1 with ⟨h1, h2⟩ | ⟨s, s1, s2, e, hn, hlow⟩
  · refine ⟨fun _ xs ys hf he => ?_, fun st hst h => by omega⟩
    have := (key xs ys hf he).1
    have hl := hlen xs ys hf
    have := h2 xs.length hl.1 hl.2
    omega
  · rw [e]
    refine ⟨fun h => by omega, fun st hst hst1 => ?_⟩
    rcases bestS_pick (tn := tn) (td := td) (wl := wl) (wh := wh) (pl := pl) (ph := ph) s1 with ⟨h0, _⟩ | ⟨_, hm, hr, _⟩
    · omega
    obtain ⟨e1, mw, mp⟩ := trains_sides hm
    obtain rfl : st = s := by omega
    obtain ⟨a1, a2, a3, a4⟩ := gen_is s1 (by omega) (sidesL_mem mw)
    obtain ⟨b1, b2, b3, b4⟩ := gen_is s1 (by omega) (sidesL_mem mp)
    have hr := isR_mul hr
    generalize hb : bestS tn td wl wh pl ph st = B at *
    obtain ⟨bn, bw, bp⟩ := B
    simp only at *
    have w1 := hF.w1
    have w3 := hF.w3
    have p1 := hF.p1
    have p3 := hF.p3
    refine ⟨⟨⟨⟨by omega, by omega⟩, by omega, ?_, ?_⟩, ?_⟩, ?_, ?_, a1, b1⟩
    · refine all_getD.2 fun i hi => ?_
      have := a3 i (by omega)
      unfold inT
      omega
    · refine all_getD.2 fun i hi => ?_
      have := b3 i (by omega)
      unfold inT
      omega
    · intro i hi
      refine ⟨a3 i (by omega), b3 i (by omega), fun h0 => ⟨?_, ?_⟩⟩
      · have := a4 i h0 (by omega)
        simpa using this
      · have := b4 i h0 (by omega)
        simpa using this
    · have f1 : prodL (bw.teeth st) = bw.p := congrArg Side.p a2.symm
      have f2 : prodL (bp.teeth st) = bp.p := congrArg Side.p b2.symm
      rw [f1, f2]
      exact hr
    · intro xs ys hf he
      obtain ⟨l1, l3, l2, _, _⟩ := fit_gen hf k3
      obtain ⟨q1, q2⟩ := key xs ys hf he
      cases hbt : betterB xs ys (bw.teeth st) (bp.teeth st) with
      | false => rfl
      | true =>
        rw [better_lt l1 l3 s1 (by omega) rfl l2 a1 b1, ← a2, ← b2] at hbt
        rcases Nat.lt_trichotomy xs.length st with h | h | h
        · have := hlow xs.length l1 h
          omega
        · rw [h, hb] at q2
          rw [h] at hbt
          rw [e1] at q2
          exact absurd hbt q2
        · unfold Tr.lt at hbt
          simp only at hbt
          omega
end Go.Proofs.Ytoenimkgagndnaa
namespace Go.Proofs.Ytoenimkgagndnaa
set_option linter.unusedVariables false
set_option linter.unusedSimpArgs false
open Go.RowKit Go.Lib

theorem vlF_iff (a b c d k : Int) : vlF a b c d k = true ↔ (1 ≤ a ∧ a ≤ b ∧ b ≤ 200 ∧ b - a < 64) ∧ (1 ≤ c ∧ c ≤ d ∧ d ≤ 200 ∧ d - c < 12) ∧ 1 ≤ k ∧ k ≤ 3 := by
  unfold vlF vtF
  rw [Bool.and_eq_true, Bool.and_eq_true, decide_eq_true_eq, decide_eq_true_eq, decide_eq_true_eq]
  omega
theorem vlF_no {a b c d k : Int} (h : ¬ ((1 ≤ a ∧ a ≤ b ∧ b ≤ 200 ∧ b - a < 64) ∧ (1 ≤ c ∧ c ≤ d ∧ d ≤ 200 ∧ d - c < 12) ∧ 1 ≤ k ∧ k ≤ 3)) : vlF a b c d k = false := by
  rw [Bool.eq_false_iff]
  intro h'
  exact h ((vlF_iff a b c d k).1 h')

set_option maxHeartbeats 4000000 in
set_option maxRecDepth 100000 in
theorem refLimits_any (a b c d k : Int) (w : World) :
    Calls Try.prog 38 #[.agg #[.int .i64 a, .int .i64 b, .int .i64 c, .int .i64 d, .int .i64 k]] w fun e w' => e = .returned (.bool (vlF a b c d k)) ∧ Gro w w' := by
  by_cases h1 : a < 1
  · rw [vlF_no (by omega)]
    go_enter Try.func38, Try.ntmps38
    go_wp2_with fail
    go_ret
    first
      | exact ⟨rfl, by (with_reducible repeat (first | exact gro_refl _ | refine gro_alloc ?_ _ | refine gro_drew ?_ | refine gro_drewN ?_ _ | (refine gro_set ?_ ?_ _; (focus first | omega | (dsimp only; omega)))))⟩
      | exact ⟨ret_bool (by simp; try omega), by (with_reducible repeat (first | exact gro_refl _ | refine gro_alloc ?_ _ | refine gro_drew ?_ | refine gro_drewN ?_ _ | (refine gro_set ?_ ?_ _; (focus first | omega | (dsimp only; omega)))))⟩
  · have h1' : 1 ≤ a := by omega
    clear h1
    by_cases h2 : b < a
    · rw [vlF_no (by omega)]
      go_enter Try.func38, Try.ntmps38
      go_wp2_with fail
      go_ret
      first
        | exact ⟨rfl, by (with_reducible repeat (first | exact gro_refl _ | refine gro_alloc ?_ _ | refine gro_drew ?_ | refine gro_drewN ?_ _ | (refine gro_set ?_ ?_ _; (focus first | omega | (dsimp only; omega)))))⟩
        | exact ⟨ret_bool (by simp; try omega), by (with_reducible repeat (first | exact gro_refl _ | refine gro_alloc ?_ _ | refine gro_drew ?_ | refine gro_drewN ?_ _ | (refine gro_set ?_ ?_ _; (focus first | omega | (dsimp only; omega)))))⟩
    · have h2' : a ≤ b := by omega
      clear h2
      by_cases h3 : 200 < b
      · rw [vlF_no (by omega)]
        go_enter Try.func38, Try.ntmps38
        go_wp2_with fail
        go_ret
        first
          | exact ⟨rfl, by (with_reducible repeat (first | exact gro_refl _ | refine gro_alloc ?_ _ | refine gro_drew ?_ | refine gro_drewN ?_ _ | (refine gro_set ?_ ?_ _; (focus first | omega | (dsimp only; omega)))))⟩
          | exact ⟨ret_bool (by simp; try omega), by (with_reducible repeat (first | exact gro_refl _ | refine gro_alloc ?_ _ | refine gro_drew ?_ | refine gro_drewN ?_ _ | (refine gro_set ?_ ?_ _; (focus first | omega | (dsimp only; omega)))))⟩
      · have h3' : b ≤ 200 := by omega
        clear h3
        by_cases h4 : 64 ≤ b - a
        · rw [vlF_no (by omega)]
          go_enter Try.func38, Try.ntmps38
          go_wp2_with fail
          go_ret
          first
            | exact ⟨rfl, by (with_reducible repeat (first | exact gro_refl _ | refine gro_alloc ?_ _ | refine gro_drew ?_ | refine gro_drewN ?_ _ | (refine gro_set ?_ ?_ _; (focus first | omega | (dsimp only; omega)))))⟩
            | exact ⟨ret_bool (by simp; try omega), by (with_reducible repeat (first | exact gro_refl _ | refine gro_alloc ?_ _ | refine gro_drew ?_ | refine gro_drewN ?_ _ | (refine gro_set ?_ ?_ _; (focus first | omega | (dsimp only; omega)))))⟩
        · have h4' : b - a < 64 := by omega
          clear h4
          by_cases h5 : c < 1
          · rw [vlF_no (by omega)]
            go_enter Try.func38, Try.ntmps38
            go_wp2_with fail
            go_ret
            first
              | exact ⟨rfl, by (with_reducible repeat (first | exact gro_refl _ | refine gro_alloc ?_ _ | refine gro_drew ?_ | refine gro_drewN ?_ _ | (refine gro_set ?_ ?_ _; (focus first | omega | (dsimp only; omega)))))⟩
              | exact ⟨ret_bool (by simp; try omega), by (with_reducible repeat (first | exact gro_refl _ | refine gro_alloc ?_ _ | refine gro_drew ?_ | refine gro_drewN ?_ _ | (refine gro_set ?_ ?_ _; (focus first | omega | (dsimp only; omega)))))⟩
          · have h5' : 1 ≤ c := by omega
            clear h5
            by_cases h6 : d < c
            · rw [vlF_no (by omega)]
              go_enter Try.func38, Try.ntmps38
              go_wp2_with fail
              go_ret
              first
                | exact ⟨rfl, by (with_reducible repeat (first | exact gro_refl _ | refine gro_alloc ?_ _ | refine gro_drew ?_ | refine gro_drewN ?_ _ | (refine gro_set ?_ ?_ _; (focus first | omega | (dsimp only; omega)))))⟩
                | exact ⟨ret_bool (by simp; try omega), by (with_reducible repeat (first | exact gro_refl _ | refine gro_alloc ?_ _ | refine gro_drew ?_ | refine gro_drewN ?_ _ | (refine gro_set ?_ ?_ _; (focus first | omega | (dsimp only; omega)))))⟩
            · have h6' : c ≤ d := by omega
              clear h6
              by_cases h7 : 200 < d
              · rw [vlF_no (by omega)]
                go_enter Try.func38, Try.ntmps38
                go_wp2_with fail
                go_ret
                first
                  | exact ⟨rfl, by (with_reducible repeat (first | exact gro_refl _ | refine gro_alloc ?_ _ | refine gro_drew ?_ | refine gro_drewN ?_ _ | (refine gro_set ?_ ?_ _; (focus first | omega | (dsimp only; omega)))))⟩
                  | exact ⟨ret_bool (by simp; try omega), by (with_reducible repeat (first | exact gro_refl _ | refine gro_alloc ?_ _ | refine gro_drew ?_ | refine gro_drewN ?_ _ | (refine gro_set ?_ ?_ _; (focus first | omega | (dsimp only; omega)))))⟩
              · have h7' : d ≤ 200 := by omega
                clear h7
                by_cases h8 : 12 ≤ d - c
                · rw [vlF_no (by omega)]
                  go_enter Try.func38, Try.ntmps38
                  go_wp2_with fail
                  go_ret
                  first
                    | exact ⟨rfl, by (with_reducible repeat (first | exact gro_refl _ | refine gro_alloc ?_ _ | refine gro_drew ?_ | refine gro_drewN ?_ _ | (refine gro_set ?_ ?_ _; (focus first | omega | (dsimp only; omega)))))⟩
                    | exact ⟨ret_bool (by simp; try omega), by (with_reducible repeat (first | exact gro_refl _ | refine gro_alloc ?_ _ | refine gro_drew ?_ | refine gro_drewN ?_ _ | (refine gro_set ?_ ?_ _; (focus first | omega | (dsimp only; omega)))))⟩
                · have h8' : d - c < 12 := by omega
                  clear h8
                  by_cases h9 : k < 1
                  · rw [vlF_no (by omega)]
                    go_enter Try.func38, Try.ntmps38
                    go_wp2_with fail
                    go_ret
                    first
                      | exact ⟨rfl, by (with_reducible repeat (first | exact gro_refl _ | refine gro_alloc ?_ _ | refine gro_drew ?_ | refine gro_drewN ?_ _ | (refine gro_set ?_ ?_ _; (focus first | omega | (dsimp only; omega)))))⟩
                      | exact ⟨ret_bool (by simp; try omega), by (with_reducible repeat (first | exact gro_refl _ | refine gro_alloc ?_ _ | refine gro_drew ?_ | refine gro_drewN ?_ _ | (refine gro_set ?_ ?_ _; (focus first | omega | (dsimp only; omega)))))⟩
                  · have h9' : 1 ≤ k := by omega
                    clear h9
                    by_cases h10 : 3 < k
                    · rw [vlF_no (by omega)]
                      go_enter Try.func38, Try.ntmps38
                      go_wp2_with fail
                      go_ret
                      first
                        | exact ⟨rfl, by (with_reducible repeat (first | exact gro_refl _ | refine gro_alloc ?_ _ | refine gro_drew ?_ | refine gro_drewN ?_ _ | (refine gro_set ?_ ?_ _; (focus first | omega | (dsimp only; omega)))))⟩
                        | exact ⟨ret_bool (by simp; try omega), by (with_reducible repeat (first | exact gro_refl _ | refine gro_alloc ?_ _ | refine gro_drew ?_ | refine gro_drewN ?_ _ | (refine gro_set ?_ ?_ _; (focus first | omega | (dsimp only; omega)))))⟩
                    · have h10' : k ≤ 3 := by omega
                      clear h10
                      rw [(vlF_iff a b c d k).2 (by omega)]
                      go_enter Try.func38, Try.ntmps38
                      go_wp2_with fail
                      go_ret
                      first
                        | exact ⟨rfl, by (with_reducible repeat (first | exact gro_refl _ | refine gro_alloc ?_ _ | refine gro_drew ?_ | refine gro_drewN ?_ _ | (refine gro_set ?_ ?_ _; (focus first | omega | (dsimp only; omega)))))⟩
                        | exact ⟨ret_bool (by simp; try omega), by (with_reducible repeat (first | exact gro_refl _ | refine gro_alloc ?_ _ | refine gro_drew ?_ | refine gro_drewN ?_ _ | (refine gro_set ?_ ?_ _; (focus first | omega | (dsimp only; omega)))))⟩
end Go.Proofs.Ytoenimkgagndnaa
namespace Go.Proofs.Ytoenimkgagndnaa
set_option linter.unusedVariables false
set_option linter.unusedSimpArgs false
open Go.RowKit Go.Lib

set_option maxHeartbeats 2000000 in
set_option maxRecDepth 100000 in
theorem narrow11_any (a b c d k : Int) (w : World) :
    Calls Try.prog 48 #[.agg #[.int .i64 a, .int .i64 b, .int .i64 c, .int .i64 d, .int .i64 k], .int .i64 11] w fun v w' => v = .returned (if vlF a b c d k = true then .agg #[.int .i64 a, .int .i64 (min b (a + 11)), .int .i64 c, .int .i64 (min d (c + 5)), .int .i64 k] else .agg #[.int .i64 a, .int .i64 b, .int .i64 c, .int .i64 d, .int .i64 k]) ∧ Below w.heap.size w w' := by
  have HL := fun W => Lib.hid (refLimits_any a b c d k W)
  by_cases h : vlF a b c d k = true
  · rw [if_pos h]
    simp only [h] at HL
    obtain ⟨⟨a1, a2, a3, a4⟩, ⟨c1, c2, c3, c4⟩, k1, k2⟩ := (vlF_iff a b c d k).1 h
    clear h
    go_enter Try.func48, Try.ntmps48
    go_wp2_with (go_at_call 38; ((with_reducible refine (HL _).out.mono ?_); rintro v w2 ⟨rfl, hk2⟩; have hb2 := hk2.below; have hz2 := hb2.size; (try simp only [sZ] at hz2); have ⟨r0, r1, r2, r3, r4, r5, r6, r7, r8, r9⟩ : w2.cell? ⟨w.heap.size, 0, none⟩ = some (.int .i64 a) ∧ w2.cell? ⟨w.heap.size, 1, none⟩ = some (.int .i64 b) ∧ w2.cell? ⟨w.heap.size, 2, none⟩ = some (.int .i64 c) ∧ w2.cell? ⟨w.heap.size, 3, none⟩ = some (.int .i64 d) ∧ w2.cell? ⟨w.heap.size, 4, none⟩ = some (.int .i64 k) ∧ w2.cell? ⟨w.heap.size + 1, 0, none⟩ = some (.int .i64 0) ∧ w2.cell? ⟨w.heap.size + 1, 1, none⟩ = some (.int .i64 0) ∧ w2.cell? ⟨w.heap.size + 1, 2, none⟩ = some (.int .i64 0) ∧ w2.cell? ⟨w.heap.size + 1, 3, none⟩ = some (.int .i64 0) ∧ w2.cell? ⟨w.heap.size + 1, 4, none⟩ = some (.int .i64 0) := (by and_intros <;> (with_reducible repeat (first | refine kc_drew ?_ | refine kc_drewN _ ?_ | refine kc_below hb2 ?_ | (refine kc_new ?_ ?_; (· first | rfl | simp only [sZ]); (· first | rfl | simp)) | (refine kc_set0 ?_ ?_; (· first | rfl | simp)) | exact ct_of (by assumption) | refine ct_drew ?_ | refine ct_drewN _ ?_ | refine ct_below hb2 ?_ | (refine ct_new ?_ ?_; (· first | rfl | simp only [sZ]); (· first | rfl | simp)) | refine ct_set _ _ ?_ | refine ct_alloc _ ?_ | (refine kc_set ?_ ?_; (focus first | (intro hx; injection hx; omega) | (simp; done))) | refine kc_alloc _ ?_))); have ⟨r10, r11, r12, r13, r14, r15, r16, r17, r18, r19⟩ : w2.frozen? ⟨w.heap.size, 0, none⟩ = false ∧ w2.frozen? ⟨w.heap.size, 1, none⟩ = false ∧ w2.frozen? ⟨w.heap.size, 2, none⟩ = false ∧ w2.frozen? ⟨w.heap.size, 3, none⟩ = false ∧ w2.frozen? ⟨w.heap.size, 4, none⟩ = false ∧ w2.frozen? ⟨w.heap.size + 1, 0, none⟩ = false ∧ w2.frozen? ⟨w.heap.size + 1, 1, none⟩ = false ∧ w2.frozen? ⟨w.heap.size + 1, 2, none⟩ = false ∧ w2.frozen? ⟨w.heap.size + 1, 3, none⟩ = false ∧ w2.frozen? ⟨w.heap.size + 1, 4, none⟩ = false := (by and_intros <;> (with_reducible repeat (first | refine kf_drew ?_ | refine kf_drewN _ ?_ | (refine kf_new ?_ _; (· first | rfl | simp only [sZ])) | refine kf_set _ _ ?_ | (refine kf_below hb2 ?_ ?_; (focus simp only [sZ]; omega)) | (refine kf_alloc _ ?_ ?_; (focus first | (simp only [sZ]; omega) | (dsimp only; omega)))))); have hB : Below w.heap.size w w2 := (by (with_reducible repeat (first | exact bR | refine bA ?_ | refine bD ?_ | refine bN ?_ | (refine bS ?_ ?_; (· dsimp only; omega)) | refine bl_call ?_ hb2))); have g1 : w.heap.size + 1 < w2.heap.size := (by omega)))
    exact bodyPost_ret (v := .agg #[.int .i64 a, .int .i64 (min b (a + 11)), .int .i64 c, .int .i64 (min d (c + 5)), .int .i64 k]) (by simp [results, Try.results48, go_sem, r5, r6, r7, r8, r9, g1, Nat.ne_of_lt g1]) rfl ⟨rfl, by (with_reducible repeat (first | exact hB | exact bR | refine bA ?_ | refine bD ?_ | refine bN ?_ | (refine bS ?_ ?_; (· dsimp only; omega))))⟩
  · rw [if_neg h]
    have h' : vlF a b c d k = false := by simpa using h
    simp only [h'] at HL
    clear h h'
    go_enter Try.func48, Try.ntmps48
    go_wp2_with (go_at_call 38; ((with_reducible refine (HL _).out.mono ?_); rintro v w2 ⟨rfl, hk2⟩; have hb2 := hk2.below; have hz2 := hb2.size; (try simp only [sZ] at hz2); have ⟨r0, r1, r2, r3, r4, r5, r6, r7, r8, r9⟩ : w2.cell? ⟨w.heap.size, 0, none⟩ = some (.int .i64 a) ∧ w2.cell? ⟨w.heap.size, 1, none⟩ = some (.int .i64 b) ∧ w2.cell? ⟨w.heap.size, 2, none⟩ = some (.int .i64 c) ∧ w2.cell? ⟨w.heap.size, 3, none⟩ = some (.int .i64 d) ∧ w2.cell? ⟨w.heap.size, 4, none⟩ = some (.int .i64 k) ∧ w2.cell? ⟨w.heap.size + 1, 0, none⟩ = some (.int .i64 0) ∧ w2.cell? ⟨w.heap.size + 1, 1, none⟩ = some (.int .i64 0) ∧ w2.cell? ⟨w.heap.size + 1, 2, none⟩ = some (.int .i64 0) ∧ w2.cell? ⟨w.heap.size + 1, 3, none⟩ = some (.int .i64 0) ∧ w2.cell? ⟨w.heap.size + 1, 4, none⟩ = some (.int .i64 0) := (by and_intros <;> (with_reducible repeat (first | refine kc_drew ?_ | refine kc_drewN _ ?_ | refine kc_below hb2 ?_ | (refine kc_new ?_ ?_; (· first | rfl | simp only [sZ]); (· first | rfl | simp)) | (refine kc_set0 ?_ ?_; (· first | rfl | simp)) | exact ct_of (by assumption) | refine ct_drew ?_ | refine ct_drewN _ ?_ | refine ct_below hb2 ?_ | (refine ct_new ?_ ?_; (· first | rfl | simp only [sZ]); (· first | rfl | simp)) | refine ct_set _ _ ?_ | refine ct_alloc _ ?_ | (refine kc_set ?_ ?_; (focus first | (intro hx; injection hx; omega) | (simp; done))) | refine kc_alloc _ ?_))); have ⟨r10, r11, r12, r13, r14⟩ : w2.frozen? ⟨w.heap.size + 1, 0, none⟩ = false ∧ w2.frozen? ⟨w.heap.size + 1, 1, none⟩ = false ∧ w2.frozen? ⟨w.heap.size + 1, 2, none⟩ = false ∧ w2.frozen? ⟨w.heap.size + 1, 3, none⟩ = false ∧ w2.frozen? ⟨w.heap.size + 1, 4, none⟩ = false := (by and_intros <;> (with_reducible repeat (first | refine kf_drew ?_ | refine kf_drewN _ ?_ | (refine kf_new ?_ _; (· first | rfl | simp only [sZ])) | refine kf_set _ _ ?_ | (refine kf_below hb2 ?_ ?_; (focus simp only [sZ]; omega)) | (refine kf_alloc _ ?_ ?_; (focus first | (simp only [sZ]; omega) | (dsimp only; omega)))))); have hB : Below w.heap.size w w2 := (by (with_reducible repeat (first | exact bR | refine bA ?_ | refine bD ?_ | refine bN ?_ | (refine bS ?_ ?_; (· dsimp only; omega)) | refine bl_call ?_ hb2))); have g1 : w.heap.size + 1 < w2.heap.size := (by omega)))
    exact bodyPost_ret (v := .agg #[.int .i64 a, .int .i64 b, .int .i64 c, .int .i64 d, .int .i64 k]) (by simp [results, Try.results48, go_sem, r5, r6, r7, r8, r9, g1, Nat.ne_of_lt g1]) rfl ⟨rfl, by (with_reducible repeat (first | exact hB | exact bR | refine bA ?_ | refine bD ?_ | refine bN ?_ | (refine bS ?_ ?_; (· dsimp only; omega))))⟩
end Go.Proofs.Ytoenimkgagndnaa
/- Digits in base 10000, the least first: what the plain functions on lists of digits give. Plain mathematics; no program. -/
namespace Go.Dig
set_option linter.unusedVariables false
set_option linter.unusedSimpArgs false

def val : List Nat → Nat
  | [] => 0
  | d :: r => d + 10000 * val r
def Ok (xs : List Nat) : Prop := ∀ d ∈ xs, d < 10000
def Canon (xs : List Nat) : Prop := Ok xs ∧ (0 < xs.length → xs.getD (xs.length - 1) 0 ≠ 0)

theorem Ok.nil : Ok [] := fun _ h => by cases h
theorem Ok.getD {xs : List Nat} (h : Ok xs) (i : Nat) : xs.getD i 0 < 10000 := by
  by_cases hi : i < xs.length
  · rw [List.getD_eq_getElem?_getD, List.getElem?_eq_getElem hi]
    exact h _ (List.getElem_mem hi)
  · simp [List.getElem?_eq_none (Nat.le_of_not_lt hi)]
theorem Ok.append {xs ys : List Nat} (h : Ok xs) (k : Ok ys) : Ok (xs ++ ys) := fun d hd => by
  rcases List.mem_append.1 hd with hd | hd
  · exact h d hd
  · exact k d hd
theorem Ok.one {d : Nat} (h : d < 10000) : Ok [d] := fun x hx => by
  simp at hx; omega
theorem Ok.take {xs : List Nat} (h : Ok xs) (i : Nat) : Ok (xs.take i) := fun d hd => h d (List.mem_of_mem_take hd)
theorem Ok.drop {xs : List Nat} (h : Ok xs) (i : Nat) : Ok (xs.drop i) := fun d hd => h d (List.mem_of_mem_drop hd)
theorem Ok.set {xs : List Nat} (h : Ok xs) (i d : Nat) (hd : d < 10000) : Ok (xs.set i d) := fun x hx => by
  rcases List.mem_or_eq_of_mem_set hx with hx | hx
  · exact h x hx
  · omega
theorem Ok.zeros (n : Nat) : Ok (List.replicate n 0) := fun x hx => by
  have := List.eq_of_mem_replicate hx; omega

theorem val_append (xs ys : List Nat) : val (xs ++ ys) = val xs + 10000 ^ xs.length * val ys := by
  induction xs with
  | nil => simp [val]
  | cons x xs ih => simp [val, ih, Nat.pow_succ]; grind
theorem val_zeros (n : Nat) : val (List.replicate n 0) = 0 := by
  induction n with
  | zero => rfl
  | succ n ih => simp [List.replicate_succ, val, ih]
theorem val_snoc (xs : List Nat) (d : Nat) : val (xs ++ [d]) = val xs + 10000 ^ xs.length * d := by
  rw [val_append]; simp [val]
theorem val_take_succ (xs : List Nat) (i : Nat) : val (xs.take (i+1)) = val (xs.take i) + 10000 ^ i * xs.getD i 0 := by
  by_cases h : i < xs.length
  · rw [List.take_succ_eq_append_getElem h, val_append]
    simp [val, Nat.min_eq_left (Nat.le_of_lt h), h]
  · rw [List.take_of_length_le (by omega), List.take_of_length_le (by omega)]
    simp [List.getElem?_eq_none (Nat.le_of_not_lt h)]
theorem val_drop (xs : List Nat) (i : Nat) : val (xs.drop i) = xs.getD i 0 + 10000 * val (xs.drop (i+1)) := by
  by_cases h : i < xs.length
  · rw [List.drop_eq_getElem_cons h]
    simp [val, h]
  · rw [List.drop_of_length_le (by omega), List.drop_of_length_le (by omega)]
    simp [val, List.getElem?_eq_none (Nat.le_of_not_lt h)]
theorem val_split (xs : List Nat) (i : Nat) (h : i ≤ xs.length) : val xs = val (xs.take i) + 10000 ^ i * val (xs.drop i) := by
  have := val_append (xs.take i) (xs.drop i)
  rw [List.take_append_drop, List.length_take, Nat.min_eq_left h] at this
  exact this
theorem val_lt {xs : List Nat} (h : Ok xs) : val xs < 10000 ^ xs.length := by
  induction xs with
  | nil => simp [val]
  | cons x xs ih =>
    have h1 := ih (fun d hd => h d (List.mem_cons_of_mem _ hd))
    have h2 := h x List.mem_cons_self
    simp only [val, List.length_cons, Nat.pow_succ]
    omega
theorem val_ge {xs : List Nat} (h : Canon xs) (hn : 0 < xs.length) : 10000 ^ (xs.length - 1) ≤ val xs := by
  have h0 := h.2 hn
  have h1 := val_split xs (xs.length - 1) (by omega)
  have h2 := val_drop xs (xs.length - 1)
  rw [show xs.length - 1 + 1 = xs.length by omega, List.drop_length] at h2
  simp only [val] at h2
  have h3 : 1 ≤ val (xs.drop (xs.length - 1)) := by omega
  have := Nat.mul_le_mul_left (10000 ^ (xs.length - 1)) h3
  omega
theorem val_zero {xs : List Nat} (h : Canon xs) (hv : val xs = 0) : xs = [] := by
  rcases Nat.eq_zero_or_pos xs.length with h0 | h0
  · exact List.eq_nil_of_length_eq_zero h0
  · have := val_ge h h0
    have : 0 < 10000 ^ (xs.length - 1) := Nat.pow_pos (by omega)
    omega
theorem len_le {xs : List Nat} (h : Canon xs) {k : Nat} (hv : val xs < 10000 ^ k) : xs.length ≤ k := by
  rcases Nat.eq_zero_or_pos xs.length with h0 | h0
  · omega
  · have h1 := val_ge h h0
    have : 10000 ^ (xs.length - 1) < 10000 ^ k := by omega
    have := (Nat.pow_lt_pow_iff_right (a := 10000) (by omega)).1 this
    omega
theorem lt_of_len {xs ys : List Nat} (h : Canon xs) (k : Canon ys) (hl : xs.length < ys.length) : val xs < val ys := by
  have h1 := val_lt h.1
  have h2 := val_ge k (by omega)
  have h3 : 10000 ^ xs.length ≤ 10000 ^ (ys.length - 1) := Nat.pow_le_pow_right (by omega) (by omega)
  omega
theorem take_ext {xs ys : List Nat} {i : Nat} (hd : ∀ j, i ≤ j → xs.getD j 0 = ys.getD j 0) (hl : xs.length = ys.length) : xs.drop i = ys.drop i := by
  apply List.ext_getElem?
  intro j
  rw [List.getElem?_drop, List.getElem?_drop]
  have := hd (i + j) (by omega)
  by_cases h : i + j < xs.length
  · rw [List.getElem?_eq_getElem h, List.getElem?_eq_getElem (by omega)]
    simp [h, hl ▸ h] at this
    rw [this]
  · rw [List.getElem?_eq_none (by omega), List.getElem?_eq_none (by omega)]
theorem lt_of_digit {xs ys : List Nat} (h : Ok xs) (hl : xs.length = ys.length) {i : Nat} (hi : i < xs.length) (hd : ∀ j, i < j → xs.getD j 0 = ys.getD j 0) (hlt : xs.getD i 0 < ys.getD i 0) : val xs < val ys := by
  have e1 := val_split xs i (by omega)
  have e2 := val_split ys i (by omega)
  have f1 := val_drop xs i
  have f2 := val_drop ys i
  have hdd : xs.drop (i+1) = ys.drop (i+1) := take_ext (fun j hj => hd j (by omega)) hl
  rw [hdd] at f1
  have b1 := val_lt (h.take i)
  rw [List.length_take, Nat.min_eq_left (by omega)] at b1
  have : val (xs.drop i) + 1 ≤ val (ys.drop i) := by omega
  have := Nat.mul_le_mul_left (10000 ^ i) this
  rw [Nat.mul_add] at this
  omega
theorem eq_of_digits {xs ys : List Nat} (hl : xs.length = ys.length) (hd : ∀ j, xs.getD j 0 = ys.getD j 0) : xs = ys := by
  have := take_ext (i := 0) (fun j _ => hd j) hl
  simpa using this

/-- lean: what is cut off is zeros. -/
theorem val_cut {xs : List Nat} {n : Nat} (hn : n ≤ xs.length) (h : ∀ j, n ≤ j → xs.getD j 0 = 0) : val (xs.take n) = val xs := by
  have e := val_split xs n hn
  have : val (xs.drop n) = 0 := by
    have : xs.drop n = List.replicate (xs.length - n) 0 := by
      apply List.ext_getElem?
      intro j
      rw [List.getElem?_drop]
      by_cases hj : n + j < xs.length
      · rw [List.getElem?_eq_getElem hj, List.getElem?_replicate, if_pos (by omega)]
        have := h (n + j) (by omega)
        simp [hj] at this
        rw [this]
      · rw [List.getElem?_eq_none (by omega), List.getElem?_eq_none (by simp; omega)]
    rw [this, val_zeros]
  rw [this] at e
  omega
theorem canon_take {xs : List Nat} {n : Nat} (hn : n ≤ xs.length) (h : Ok xs) (h0 : 0 < n → xs.getD (n - 1) 0 ≠ 0) : Canon (xs.take n) := by
  refine ⟨h.take n, fun hp => ?_⟩
  rw [List.length_take, Nat.min_eq_left hn] at hp ⊢
  have := h0 hp
  simpa [List.getElem?_take, show n - 1 < n by omega] using this

/-- plus: one round. -/
theorem plus_step (P s A B o c x y : Nat) (h : o + c * P = A + B) (hs : s = c + x + y) :
    (o + P * (s % 10000)) + (s / 10000) * (P * 10000) = (A + P * x) + (B + P * y) := by
  have e := Nat.div_add_mod s 10000
  generalize s / 10000 = q at *
  generalize s % 10000 = r at *
  subst hs
  grind
/-- less: one round without and with a borrow. -/
theorem less_step0 (P A B o b x y : Nat) (h : o + B = A + b * P) (hs : b + y ≤ x) :
    (o + P * (x - b - y)) + (B + P * y) = (A + P * x) + 0 * (P * 10000) := by
  obtain ⟨t, rfl⟩ : ∃ t, x = b + y + t := ⟨x - b - y, by omega⟩
  rw [show b + y + t - b - y = t by omega]
  grind
theorem less_step1 (P A B o b x y : Nat) (h : o + B = A + b * P) (hs : x < b + y) (hle : b + y ≤ x + 10000) :
    (o + P * (x + 10000 - b - y)) + (B + P * y) = (A + P * x) + 1 * (P * 10000) := by
  obtain ⟨t, ht⟩ : ∃ t, x + 10000 = b + y + t := ⟨x + 10000 - b - y, by omega⟩
  rw [show x + 10000 - b - y = t by omega]
  grind

theorem val_set {xs : List Nat} {i d : Nat} (hi : i < xs.length) : val (xs.set i d) + 10000 ^ i * xs.getD i 0 = val xs + 10000 ^ i * d := by
  induction xs generalizing i with
  | nil => simp at hi
  | cons x xs ih =>
    cases i with
    | zero => simp [val]; omega
    | succ i =>
      have := ih (i := i) (by simpa using hi)
      simp only [List.set_cons_succ, val, List.getD_cons_succ, Nat.pow_succ]
      generalize val (xs.set i d) = u at *
      generalize val xs = v at *
      generalize xs.getD i 0 = z at *
      grind
theorem mul_step (P s z c x y o o' q r : Nat) (hs : s = z + c + x * y) (hq : q = s / 10000) (hr : r = s % 10000) (ho : o' + P * z = o + P * r) :
    o' + q * (P * 10000) = o + c * P + P * (x * y) := by
  have e := Nat.div_add_mod s 10000
  subst hq hr
  generalize s / 10000 = q at *
  generalize s % 10000 = r at *
  subst hs
  grind
theorem canon_nil : Canon [] := ⟨Ok.nil, fun h => by simp at h⟩
end Go.Dig
namespace Go.Proofs.Ytoenimkgagndnaa
set_option linter.unusedVariables false
set_option linter.unusedSimpArgs false
open Go.RowKit Go.Lib Go.Dig

def zi (ds : List Nat) : List Int := ds.map fun d => ((d : Nat) : Int)
theorem zi_len (ds : List Nat) : (zi ds).length = ds.length := by simp [zi]
theorem zi_get (ds : List Nat) (i : Nat) : (zi ds).getD i 0 = ((ds.getD i 0 : Nat) : Int) := by
  unfold zi
  rw [List.getD_eq_getElem?_getD, List.getD_eq_getElem?_getD, List.getElem?_map]
  cases ds[i]? <;> simp
theorem zi_snoc (ds : List Nat) (d : Nat) : zi (ds ++ [d]) = zi ds ++ [(d : Int)] := by simp [zi]
/-- Digits that a slice reads as, in blocks from a number on. -/
def RdD (base : Nat) (W : World) (a : Option Addr) (n c : Nat) (ds : List Nat) : Prop :=
  n = ds.length ∧ n ≤ c ∧ (ds = [] ∨ ∃ g o, base ≤ g ∧ a = some ⟨g, o, none⟩ ∧ ∀ i, i < n → W.cell? ⟨g, o + i, none⟩ = some (.int .i64 ((ds.getD i 0 : Nat) : Int)))
theorem RdD.below {base : Nat} {W W1 : World} {a : Option Addr} {n c : Nat} {ds : List Nat} (h : RdD base W a n c ds) (hb : Below W.heap.size W W1) : RdD base W1 a n c ds :=
  ⟨h.1, h.2.1, h.2.2.imp_right fun ⟨g, o, h0, h1, h2⟩ => ⟨g, o, h0, h1, fun i hi => kc_below hb (h2 i hi)⟩⟩
theorem RdD.mono {base b : Nat} {W : World} {a : Option Addr} {n c : Nat} {ds : List Nat} (h : RdD base W a n c ds) (hb : b ≤ base) : RdD b W a n c ds :=
  ⟨h.1, h.2.1, h.2.2.imp_right fun ⟨g, o, h0, h1⟩ => ⟨g, o, Nat.le_trans hb h0, h1⟩⟩
theorem RdD.set {base : Nat} {W : World} {a : Option Addr} {n c : Nat} {ds : List Nat} (h : RdD base W a n c ds) {b o : Nat} (hb : b < base) (u : Value) : RdD base (W.setCell ⟨b, o, none⟩ u) a n c ds :=
  ⟨h.1, h.2.1, h.2.2.imp_right fun ⟨g, o', h0, h1, h2⟩ => ⟨g, o', h0, h1, fun i hi => kc_set (fun he => by injection he; omega) (h2 i hi)⟩⟩
theorem RdD.of {base : Nat} {W : World} {a : Option Addr} {n c : Nat} {ds : List Nat} (hn : n = ds.length) (h : RdF base W (.slice a n c) (zi ds)) : RdD base W a n c ds := by
  obtain ⟨a', c', he, hc, h⟩ := h
  simp only [Value.slice.injEq, zi_len] at he
  obtain ⟨rfl, _, rfl⟩ := he
  rw [zi_len] at hc
  refine ⟨hn, by omega, ?_⟩
  rcases h with h | ⟨g, o, h0, h1, h2⟩
  · exact .inl (by unfold zi at h; simpa using h)
  · refine .inr ⟨g, o, h0, h1, fun i hi => ?_⟩
    have := h2 i (by rw [zi_len]; omega)
    rwa [zi_get] at this
theorem RdD.nil (base : Nat) (W : World) (a : Option Addr) (c : Nat) : RdD base W a 0 c [] := ⟨rfl, Nat.zero_le _, .inl rfl⟩

/-- A number: its sign, its digits. -/
def Zat (base : Nat) (W : World) (s : Bool) (a : Option Addr) (n c : Nat) (z : Int) : Prop :=
  s = decide (z < 0) ∧ ∃ ds, RdD base W a n c ds ∧ Canon ds ∧ val ds = z.natAbs
theorem Zat.below {base : Nat} {W W1 : World} {s : Bool} {a : Option Addr} {n c : Nat} {z : Int} (h : Zat base W s a n c z) (hb : Below W.heap.size W W1) : Zat base W1 s a n c z :=
  ⟨h.1, h.2.elim fun ds ⟨h1, h2⟩ => ⟨ds, h1.below hb, h2⟩⟩
theorem Zat.mono {base b : Nat} {W : World} {s : Bool} {a : Option Addr} {n c : Nat} {z : Int} (h : Zat base W s a n c z) (hb : b ≤ base) : Zat b W s a n c z :=
  ⟨h.1, h.2.elim fun ds ⟨h1, h2⟩ => ⟨ds, h1.mono hb, h2⟩⟩
theorem Zat.set {base : Nat} {W : World} {s : Bool} {a : Option Addr} {n c : Nat} {z : Int} (h : Zat base W s a n c z) {b o : Nat} (hb : b < base) (u : Value) : Zat base (W.setCell ⟨b, o, none⟩ u) s a n c z :=
  ⟨h.1, h.2.elim fun ds ⟨h1, h2⟩ => ⟨ds, h1.set hb u, h2⟩⟩
theorem Zat.len {base : Nat} {W : World} {s : Bool} {a : Option Addr} {n c : Nat} {z : Int} (h : Zat base W s a n c z) {k : Nat} (hk : z.natAbs < 10000 ^ k) : n ≤ k := by
  obtain ⟨_, ds, ⟨rfl, _⟩, hc, hv⟩ := h
  exact len_le hc (by omega)
theorem Zat.zero {base : Nat} {W : World} {s : Bool} {a : Option Addr} {n c : Nat} {z : Int} (h : Zat base W s a n c z) : n = 0 ↔ z = 0 := by
  obtain ⟨_, ds, ⟨rfl, _⟩, hc, hv⟩ := h
  constructor
  · intro h0
    have : ds = [] := List.eq_nil_of_length_eq_zero h0
    subst this
    simp [val] at hv
    omega
  · rintro rfl
    have := val_zero hc (by simpa using hv)
    rw [this]; rfl
end Go.Proofs.Ytoenimkgagndnaa
namespace Go.Proofs.Ytoenimkgagndnaa
set_option linter.unusedVariables false
set_option linter.unusedSimpArgs false
open Go.RowKit Go.Lib Go.Dig

theorem Zat.neg {base : Nat} {W : World} {s : Bool} {a : Option Addr} {n c : Nat} {z : Int} (h : Zat base W s a n c z) : Zat base W (!s && decide (0 < n)) a n c (-z) := by
  have h0 := h.zero
  obtain ⟨hs, ds, h1, h2, h3⟩ := h
  refine ⟨?_, ds, h1, h2, by omega⟩
  subst hs
  by_cases hz : z = 0
  · have := h0.2 hz
    subst this
    subst hz
    rfl
  · have hn : 0 < n := Nat.pos_of_ne_zero fun h => hz (h0.1 h)
    rw [decide_eq_true hn, Bool.and_true, Bool.eq_iff_iff]
    simp
    omega
theorem Zat.abs {base : Nat} {W : World} {s : Bool} {a : Option Addr} {n c : Nat} {z : Int} (h : Zat base W s a n c z) : Zat base W false a n c z.natAbs := by
  obtain ⟨hs, ds, h1, h2, h3⟩ := h
  exact ⟨(decide_eq_false (by omega)).symm, ds, h1, h2, by omega⟩

theorem negZ_any (s : Bool) (a : Option Addr) (n c : Nat) (w : World) :
    Calls Try.prog 89 #[.agg #[.bool s, .slice a n c]] w fun e w' => e = .returned (.agg #[.bool (!s && decide (0 < n)), .slice a n c]) ∧ Gro w w' := by
  cases s
  · by_cases h : 0 < n
    · have h' : (0 : Int) < (n : Int) := by omega
      rw [decide_eq_true h]
      go_enter Try.func89, Try.ntmps89
      go_wp2_with fail
      exact bodyPost_ret (v := .agg #[.bool true, .slice a n c]) (by simp [results, Try.results89, go_sem]) rfl ⟨rfl, by (with_reducible repeat (first | exact gro_refl _ | refine gro_alloc ?_ _ | refine gro_drew ?_ | refine gro_drewN ?_ _ | (refine gro_set ?_ ?_ _; (focus first | omega | (dsimp only; omega)))))⟩
    · obtain rfl : n = 0 := by omega
      go_enter Try.func89, Try.ntmps89
      go_wp2_with fail
      exact bodyPost_ret (v := .agg #[.bool false, .slice a 0 c]) (by simp [results, Try.results89, go_sem]) rfl ⟨rfl, by (with_reducible repeat (first | exact gro_refl _ | refine gro_alloc ?_ _ | refine gro_drew ?_ | refine gro_drewN ?_ _ | (refine gro_set ?_ ?_ _; (focus first | omega | (dsimp only; omega)))))⟩
  · go_enter Try.func89, Try.ntmps89
    go_wp2_with fail
    exact bodyPost_ret (v := .agg #[.bool false, .slice a n c]) (by simp [results, Try.results89, go_sem]) rfl ⟨rfl, by (with_reducible repeat (first | exact gro_refl _ | refine gro_alloc ?_ _ | refine gro_drew ?_ | refine gro_drewN ?_ _ | (refine gro_set ?_ ?_ _; (focus first | omega | (dsimp only; omega)))))⟩

theorem absZ_any (s : Bool) (a : Option Addr) (n c : Nat) (w : World) :
    Calls Try.prog 92 #[.agg #[.bool s, .slice a n c]] w fun e w' => e = .returned (.agg #[.bool false, .slice a n c]) ∧ Gro w w' := by
  go_enter Try.func92, Try.ntmps92
  go_wp2_with fail
  exact bodyPost_ret (v := .agg #[.bool false, .slice a n c]) (by simp [results, Try.results92, go_sem]) rfl ⟨rfl, by (with_reducible repeat (first | exact gro_refl _ | refine gro_alloc ?_ _ | refine gro_drew ?_ | refine gro_drewN ?_ _ | (refine gro_set ?_ ?_ _; (focus first | omega | (dsimp only; omega)))))⟩

theorem signZ_any (s : Bool) (a : Option Addr) (n c : Nat) (w : World) :
    Calls Try.prog 90 #[.agg #[.bool s, .slice a n c]] w fun e w' => e = .returned (.int .i64 (if n = 0 then 0 else if s = true then -1 else 1)) ∧ Gro w w' := by
  by_cases h : n = 0
  · subst h
    go_enter Try.func90, Try.ntmps90
    go_wp2_with fail
    go_ret
    exact ⟨rfl, by (with_reducible repeat (first | exact gro_refl _ | refine gro_alloc ?_ _ | refine gro_drew ?_ | refine gro_drewN ?_ _ | (refine gro_set ?_ ?_ _; (focus first | omega | (dsimp only; omega)))))⟩
  · rw [if_neg h]
    have h' : ((n : Int) == 0) = false := by simpa using h
    clear h
    cases s
    all_goals
      go_enter Try.func90, Try.ntmps90
      go_wp2_with fail
      go_ret
      exact ⟨rfl, by (with_reducible repeat (first | exact gro_refl _ | refine gro_alloc ?_ _ | refine gro_drew ?_ | refine gro_drewN ?_ _ | (refine gro_set ?_ ?_ _; (focus first | omega | (dsimp only; omega)))))⟩
theorem Zat.sign {base : Nat} {W : World} {s : Bool} {a : Option Addr} {n c : Nat} {z : Int} (h : Zat base W s a n c z) : (if n = 0 then (0 : Int) else if s = true then -1 else 1) = cmpZ z 0 := by
  have h0 := h.zero
  obtain ⟨hs, _⟩ := h
  subst hs
  unfold cmpZ
  by_cases hz : z = 0
  · rw [if_pos (h0.2 hz), if_neg (by omega), if_neg (by omega)]
  · rw [if_neg fun h => hz (h0.1 h)]
    by_cases hn : z < 0
    · rw [if_pos (decide_eq_true hn), if_pos hn]
    · rw [if_neg (by simpa using hn), if_neg hn, if_pos (by omega)]

set_option maxHeartbeats 1000000 in
theorem sizes_loop (g o q p n c e : Nat) (xs ys : List Nat) (w : World) (hx : Hid (n = xs.length)) (hy : Hid (n = ys.length)) (cx : Hid (Canon xs)) (cy : Hid (Canon ys)) (hn : n ≤ 4611686018427387904) (hc : n ≤ c) (he : n ≤ e)
    (HX : Hid (∀ i, i < n → w.cell? ⟨g, o + i, none⟩ = some (.int .i64 ((xs.getD i 0 : Nat) : Int)))) (HY : Hid (∀ i, i < n → w.cell? ⟨q, p + i, none⟩ = some (.int .i64 ((ys.getD i 0 : Nat) : Int)))) :
    Calls Try.prog 99 #[.slice (some ⟨g, o, none⟩) n c, .slice (some ⟨q, p, none⟩) n e] w fun v w' => v = .returned (.int .i64 (cmpZ (val xs) (val ys))) ∧ Gro w w' := by
  have t0 : ((n : Int) != (n : Int)) = false := by simp
  go_enter Try.func99, Try.ntmps99
  go_wp2_with fail
  go_loopw [5] (fun t wr => ∃ (i : Int) (m : Nat), -1 ≤ i ∧ i < n ∧ t = .int .i64 i ∧ Hid (∀ j : Nat, i < (j : Int) → xs.getD j 0 = ys.getD j 0) ∧ wr = w.drewN m) (fun t _ => (intOf t + 1).toNat)
  case atStart =>
    refine ⟨(n : Int) - 1, 0, by omega, by omega, rfl, fun j hj => ?_, rfl⟩
    rw [List.getD_eq_getElem?_getD, List.getD_eq_getElem?_getD, List.getElem?_eq_none (by have := hx.out; omega), List.getElem?_eq_none (by have := hy.out; omega)]
  case round =>
    obtain ⟨i, m, i1, i2, rfl, hE, rfl⟩ := hrel
    by_cases h0 : 0 ≤ i
    · obtain ⟨j, rfl⟩ := Int.eq_ofNat_of_zero_le h0
      have hj : j < n := by omega
      have c1 : w.cell? ⟨g, o + j, none⟩ = some (.int .i64 ((xs.getD j 0 : Nat) : Int)) := HX.out j hj
      have c2 : w.cell? ⟨q, p + j, none⟩ = some (.int .i64 ((ys.getD j 0 : Nat) : Int)) := HY.out j hj
      rcases Nat.lt_trichotomy (xs.getD j 0) (ys.getD j 0) with h | h | h
      · have HV : Hid (-1 = cmpZ (val xs) (val ys)) := by
          have := lt_of_digit cx.out.1 (hx.out.symm.trans hy.out) (i := j) (by have := hx.out; omega) (fun k hk => hE.out k (by omega)) h
          exact (cmpZ_lt (by omega)).symm
        generalize xs.getD j 0 = x at *
        generalize ys.getD j 0 = y at *
        have t1 : (x : Int) < (y : Int) := by omega
        clear hE h
        go_wp2_with fail
        go_quiet (fail)
        go_wp2_with fail
        go_ret
        exact ⟨ret_i64 HV.out, by (with_reducible repeat (first | exact gro_refl _ | refine gro_alloc ?_ _ | refine gro_drew ?_ | refine gro_drewN ?_ _ | (refine gro_set ?_ ?_ _; (focus first | omega | (dsimp only; omega)))))⟩
      · have hE2 : Hid (∀ k : Nat, (j : Int) - 1 < (k : Int) → xs.getD k 0 = ys.getD k 0) := fun k hk => by
          rcases (show (j : Int) < k ∨ k = j by omega) with h' | h'
          · exact hE.out k h'
          · rw [h']; exact h
        rw [h] at c1
        generalize ys.getD j 0 = y at *
        clear hE h
        go_wp2_with fail
        go_quiet (fail)
        go_wp2_with fail
        go_quiet (fail)
        go_wp2_with fail
        go_roundw
        case rel => exact ⟨(j : Int) - 1, _, by omega, by omega, rfl, hE2, by first | rfl | (rw [World.drewN_drewN]; done) | (rw [World.drewN_drewN, World.drewN_drewN])⟩
        case measure => first | (simp [intOf]; done) | (simp [intOf]; omega)
      · have HV : Hid (1 = cmpZ (val xs) (val ys)) := by
          have := lt_of_digit cy.out.1 (hy.out.symm.trans hx.out) (i := j) (by have := hy.out; omega) (fun k hk => (hE.out k (by omega)).symm) h
          exact (cmpZ_gt (by omega)).symm
        generalize xs.getD j 0 = x at *
        generalize ys.getD j 0 = y at *
        have t1 : (y : Int) < (x : Int) := by omega
        clear hE h
        go_wp2_with fail
        go_quiet (fail)
        go_wp2_with fail
        go_quiet (fail)
        go_wp2_with fail
        go_ret
        exact ⟨ret_i64 HV.out, by (with_reducible repeat (first | exact gro_refl _ | refine gro_alloc ?_ _ | refine gro_drew ?_ | refine gro_drewN ?_ _ | (refine gro_set ?_ ?_ _; (focus first | omega | (dsimp only; omega)))))⟩
    · obtain rfl : i = -1 := by omega
      have HV : Hid (0 = cmpZ (val xs) (val ys)) := by
        have : xs = ys := eq_of_digits (hx.out.symm.trans hy.out) fun j => hE.out j (by omega)
        rw [this]
        exact (cmpZ_eq rfl).symm
      clear hE
      go_wp2_with fail
      go_ret
      exact ⟨ret_i64 HV.out, by (with_reducible repeat (first | exact gro_refl _ | refine gro_alloc ?_ _ | refine gro_drew ?_ | refine gro_drewN ?_ _ | (refine gro_set ?_ ?_ _; (focus first | omega | (dsimp only; omega)))))⟩

theorem sizes_any (a b : Option Addr) (n c m e : Nat) (xs ys : List Nat) (w : World) {p1 p2 : Nat} (hx : RdD p1 w a n c xs) (hy : RdD p2 w b m e ys) (cx : Canon xs) (cy : Canon ys) (hn : n ≤ 4611686018427387904) (hm : m ≤ 4611686018427387904) :
    Calls Try.prog 99 #[.slice a n c, .slice b m e] w fun v w' => v = .returned (.int .i64 (cmpZ (val xs) (val ys))) ∧ Gro w w' := by
  obtain ⟨hxl, hxc, hx⟩ := hx
  obtain ⟨hyl, hyc, hy⟩ := hy
  rcases Nat.lt_trichotomy n m with h | h | h
  · have HV : Hid (-1 = cmpZ (val xs) (val ys)) := by
      have := lt_of_len cx cy (by omega)
      exact (cmpZ_lt (by omega)).symm
    have t0 : ((n : Int) != (m : Int)) = true := by simp; omega
    have t1 : (n : Int) < (m : Int) := by omega
    clear hx hy hxl hyl
    go_enter Try.func99, Try.ntmps99
    go_wp2_with fail
    go_ret
    exact ⟨ret_i64 HV.out, by (with_reducible repeat (first | exact gro_refl _ | refine gro_alloc ?_ _ | refine gro_drew ?_ | refine gro_drewN ?_ _ | (refine gro_set ?_ ?_ _; (focus first | omega | (dsimp only; omega)))))⟩
  · subst h
    rcases hx with rfl | ⟨g, o, _, rfl, hx⟩
    · rw [List.length_nil] at hxl
      subst hxl
      have : ys = [] := List.eq_nil_of_length_eq_zero hyl.symm
      subst this
      clear hyl hy hxc hyc cx cy hn hm
      go_enter Try.func99, Try.ntmps99
      go_wp2_with fail
      refine wp_loop_rounds 2 ?_
      rw [rounds_succ]
      go_wp2_with fail
      go_ret
      exact ⟨ret_i64 (cmpZ_eq rfl).symm, by (with_reducible repeat (first | exact gro_refl _ | refine gro_alloc ?_ _ | refine gro_drew ?_ | refine gro_drewN ?_ _ | (refine gro_set ?_ ?_ _; (focus first | omega | (dsimp only; omega)))))⟩
    · rcases hy with rfl | ⟨q, p, _, rfl, hy⟩
      · rw [List.length_nil] at hyl
        subst hyl
        have : xs = [] := List.eq_nil_of_length_eq_zero hxl.symm
        subst this
        clear hxl hx hxc hyc cx cy hn hm
        go_enter Try.func99, Try.ntmps99
        go_wp2_with fail
        refine wp_loop_rounds 2 ?_
        rw [rounds_succ]
        go_wp2_with fail
        go_ret
        exact ⟨ret_i64 (cmpZ_eq rfl).symm, by (with_reducible repeat (first | exact gro_refl _ | refine gro_alloc ?_ _ | refine gro_drew ?_ | refine gro_drewN ?_ _ | (refine gro_set ?_ ?_ _; (focus first | omega | (dsimp only; omega)))))⟩
      · exact sizes_loop g o q p n c e xs ys w hxl hyl cx cy hn hxc hyc hx hy
  · have HV : Hid (1 = cmpZ (val xs) (val ys)) := by
      have := lt_of_len cy cx (by omega)
      exact (cmpZ_gt (by omega)).symm
    have t0 : ((n : Int) != (m : Int)) = true := by simp; omega
    have t1 : ¬ (n : Int) < (m : Int) := by omega
    clear hx hy hxl hyl
    go_enter Try.func99, Try.ntmps99
    go_wp2_with fail
    go_ret
    exact ⟨ret_i64 HV.out, by (with_reducible repeat (first | exact gro_refl _ | refine gro_alloc ?_ _ | refine gro_drew ?_ | refine gro_drewN ?_ _ | (refine gro_set ?_ ?_ _; (focus first | omega | (dsimp only; omega)))))⟩
end Go.Proofs.Ytoenimkgagndnaa
