/- The plain side of gear.sides: all sides of so many stages. -/
import Derived.Test.YtmigddempeecoaaRow
namespace Go.Proofs.Ytmigddempeecoaa
set_option linter.unusedVariables false
set_option linter.unusedSimpArgs false
open Go.RowKit Go.Shelf Go.Lib Go.Sort

def Side.tooth (x : Side) (i : Nat) : Int := if i = 0 then x.a else if i = 1 then x.b else x.c
def fromOf (low : Int) (r : Bool) (k : Nat) (x : Side) : Int := if 0 < k ∧ r = true then x.tooth (k - 1) else low
def toOf (high : Int) (r : Bool) (k : Nat) (x : Side) : Int := if 0 < k ∧ r = false then x.tooth (k - 1) else high
/-- The longer sides of a side: the first n. -/
def extTo (low : Int) (r : Bool) (k : Nat) (x : Side) (n : Nat) : List Side := (List.range n).map fun (i : Nat) => x.with k (fromOf low r k x + (i : Int))
def ext (low high : Int) (r : Bool) (k : Nat) (x : Side) : List Side := extTo low r k x (toOf high r k x - fromOf low r k x + 1).toNat
def gen (low high : Int) (r : Bool) : Nat → List Side
  | 0 => [⟨0, 0, 0, 1, 0⟩]
  | k + 1 => (gen low high r k).flatMap (ext low high r k)

/-- What holds of a side of k stages. -/
def Good (low high : Int) (k : Nat) (x : Side) : Prop := (∀ i, i < k → low ≤ x.tooth i ∧ x.tooth i ≤ high) ∧ 1 ≤ x.p ∧ x.p ≤ 200 ^ k ∧ 0 ≤ x.s ∧ x.s ≤ 200 * k

theorem tooth_with (x : Side) (k : Nat) (t : Int) (hk : k < 3) (i : Nat) (hi : i ≤ k) : (x.with k t).tooth i = if i = k then t else x.tooth i := by
  unfold Side.with Side.tooth
  rcases (show k = 0 ∨ k = 1 ∨ k = 2 by omega) with rfl | rfl | rfl
  · obtain rfl : i = 0 := by omega
    simp
  · rcases (show i = 0 ∨ i = 1 by omega) with rfl | rfl <;> simp
  · rcases (show i = 0 ∨ i = 1 ∨ i = 2 by omega) with rfl | rfl | rfl <;> simp

theorem good_with {low high : Int} {k : Nat} {x : Side} (h : Good low high k x) (hk : k < 3) {t : Int} (h1 : low ≤ t) (h2 : t ≤ high) (h3 : 1 ≤ low) (h4 : high ≤ 200) : Good low high (k + 1) (x.with k t) := by
  obtain ⟨ht, hp1, hp2, hs1, hs2⟩ := h
  refine ⟨fun i hi => ?_, ?_, ?_, ?_, ?_⟩
  · rw [tooth_with x k t hk i (by omega)]
    split
    · exact ⟨h1, h2⟩
    · exact ht i (by omega)
  · show 1 ≤ x.p * t
    have := Int.mul_le_mul hp1 (show 1 ≤ t by omega) (by omega) (by omega)
    omega
  · show x.p * t ≤ 200 ^ (k + 1)
    have := Int.mul_le_mul hp2 (show t ≤ 200 by omega) (by omega) (by omega)
    rw [Int.pow_succ]
    exact this
  · show 0 ≤ x.s + t; omega
  · show x.s + t ≤ 200 * ((k + 1 : Nat) : Int); omega

theorem from_to {low high : Int} {r : Bool} {k : Nat} {x : Side} (h : Good low high k x) (hlh : low ≤ high) : low ≤ fromOf low r k x ∧ fromOf low r k x ≤ high ∧ low ≤ toOf high r k x ∧ toOf high r k x ≤ high ∧ fromOf low r k x ≤ toOf high r k x := by
  unfold fromOf toOf
  by_cases hk : 0 < k
  · have := h.1 (k - 1) (by omega)
    cases r <;> simp [hk] <;> omega
  · simp [hk]; omega

theorem gen_good {low high : Int} {r : Bool} (hlh : low ≤ high) (h3 : 1 ≤ low) (h4 : high ≤ 200) : ∀ k, k ≤ 3 → ∀ x ∈ gen low high r k, Good low high k x
  | 0, _, x, hx => by
    simp [gen] at hx
    subst hx
    exact ⟨fun i hi => absurd hi (by omega), by decide, by decide, by decide, by decide⟩
  | k + 1, hk, x, hx => by
    simp only [gen, List.mem_flatMap] at hx
    obtain ⟨y, hy, hx⟩ := hx
    have hg := gen_good hlh h3 h4 k (by omega) y hy
    have hft := from_to (r := r) hg hlh
    simp only [ext, extTo, List.mem_map, List.mem_range] at hx
    obtain ⟨i, hi, rfl⟩ := hx
    exact good_with hg (by omega) (by omega) (by omega) h3 h4

theorem ext_len {low high : Int} {r : Bool} {k : Nat} {x : Side} (h : Good low high k x) (hlh : low ≤ high) (hw : high - low < 64) : (ext low high r k x).length ≤ 64 ∧ 1 ≤ (ext low high r k x).length := by
  have hft := from_to (r := r) h hlh
  simp only [ext, extTo, List.length_map, List.length_range]
  omega

theorem flat_len {α β : Type} (f : α → List β) (n : Nat) : ∀ l : List α, (∀ x ∈ l, (f x).length ≤ n) → (l.flatMap f).length ≤ l.length * n
  | [], _ => by simp
  | x :: l, h => by
    have h1 := h x List.mem_cons_self
    have h2 := flat_len f n l (fun y hy => h y (List.mem_cons_of_mem _ hy))
    simp only [List.flatMap_cons, List.length_append, List.length_cons, Nat.add_mul]
    omega
theorem flat_pos {α β : Type} (f : α → List β) : ∀ l : List α, 1 ≤ l.length → (∀ x ∈ l, 1 ≤ (f x).length) → 1 ≤ (l.flatMap f).length
  | [], h, _ => by simp at h
  | x :: l, _, h => by
    have h1 := h x List.mem_cons_self
    simp only [List.flatMap_cons, List.length_append]
    omega

theorem gen_len {low high : Int} {r : Bool} (hlh : low ≤ high) (h3 : 1 ≤ low) (h4 : high ≤ 200) (hw : high - low < 64) : ∀ k, k ≤ 3 → (gen low high r k).length ≤ 64 ^ k ∧ 1 ≤ (gen low high r k).length
  | 0, _ => by simp [gen]
  | k + 1, hk => by
    have ih := gen_len (r := r) hlh h3 h4 hw k (by omega)
    have hg := gen_good (r := r) hlh h3 h4 k (by omega)
    constructor
    · have := flat_len (ext low high r k) 64 (gen low high r k) (fun x hx => (ext_len (hg x hx) hlh hw).1)
      simp only [gen, Nat.pow_succ]
      have := Nat.mul_le_mul_right 64 ih.1
      omega
    · exact flat_pos _ _ ih.2 (fun x hx => (ext_len (hg x hx) hlh hw).2)

/-- What the first j sides of k stages give. -/
def accTo (low high : Int) (r : Bool) (k j : Nat) : List Side := ((gen low high r k).take j).flatMap (ext low high r k)
theorem accTo_zero (low high : Int) (r : Bool) (k : Nat) : accTo low high r k 0 = [] := by simp [accTo]
theorem accTo_succ (low high : Int) (r : Bool) (k j : Nat) (hj : j < (gen low high r k).length) : accTo low high r k (j + 1) = accTo low high r k j ++ ext low high r k ((gen low high r k)[j]) := by
  unfold accTo
  rw [List.take_succ_eq_append_getElem hj, List.flatMap_append]
  simp
theorem accTo_end (low high : Int) (r : Bool) (k : Nat) : accTo low high r k (gen low high r k).length = gen low high r (k + 1) := by
  unfold accTo
  rw [List.take_length]
  rfl
theorem accTo_len {low high : Int} {r : Bool} (hlh : low ≤ high) (h3 : 1 ≤ low) (h4 : high ≤ 200) (hw : high - low < 64) (k j : Nat) (hk : k ≤ 3) : (accTo low high r k j).length ≤ j * 64 := by
  have hg := gen_good (r := r) hlh h3 h4 k (by omega)
  have := flat_len (ext low high r k) 64 ((gen low high r k).take j) (fun x hx => (ext_len (hg x (List.mem_of_mem_take hx)) hlh hw).1)
  have hl : ((gen low high r k).take j).length ≤ j := List.length_take_le _ _
  have := Nat.mul_le_mul_right 64 hl
  unfold accTo
  omega
theorem extTo_succ (low : Int) (r : Bool) (k : Nat) (x : Side) (n : Nat) : extTo low r k x (n + 1) = extTo low r k x n ++ [x.with k (fromOf low r k x + n)] := by
  simp [extTo, List.range_succ]

/-! ### A row of sides of the call's own -/
def flat (l : List Side) : List Value := l.flatMap Side.enc
theorem flat_snoc (l : List Side) (x : Side) : flat (l ++ [x]) = flat l ++ x.enc := by simp [flat]
theorem flat_length (l : List Side) : (flat l).length = l.length * 5 := by
  induction l with
  | nil => rfl
  | cons x l ih => simp only [flat, List.flatMap_cons, List.length_append, List.length_cons] at *; rw [ih, enc_len]; omega
theorem flat_get (l : List Side) (i c : Nat) (hi : i < l.length) (hc : c < 5) : (flat l)[i * 5 + c]? = some (l[i].enc)[c]! := by
  induction l generalizing i with
  | nil => simp at hi
  | cons x l ih =>
    cases i with
    | zero =>
      simp only [flat, List.flatMap_cons, Nat.zero_mul, Nat.zero_add]
      rw [List.getElem?_append_left (by rw [enc_len]; exact hc)]
      simp only [List.getElem_cons_zero]
      rw [List.getElem?_eq_getElem (by rw [enc_len]; exact hc)]
      exact congrArg some (getElem!_pos x.enc c (by rw [enc_len]; exact hc)).symm
    | succ i =>
      have := ih i (by simpa using hi)
      simp only [flat, List.flatMap_cons] at *
      rw [List.getElem?_append_right (by rw [enc_len]; omega), enc_len, show (i + 1) * 5 + c - 5 = i * 5 + c by omega, this]
      simp

theorem holds_of_own {W : World} {base e : Nat} {v : Value} {l : List Side} (h : W.ownsRow base e 5 v l.length (flat l)) (hl : 1 ≤ l.length) :
    ∃ g cap, v = .slice (some ⟨g, 0, none⟩) l.length cap ∧ base ≤ g ∧ g < W.heap.size ∧ l.length ≤ cap ∧ cap ≤ maxLen ∧ HoldsK Side.enc 5 W g 0 l.toArray := by
  rcases h.2 with ⟨_, h0⟩ | ⟨g, cap, cur, rfl, hb, hh, hnc, hcm, hcs, htake⟩
  · omega
  · refine ⟨g, cap, rfl, hb, (Array.getElem?_eq_some_iff.1 hh).1, hnc, hcm, holdsK_mk fun i hi c hc => ?_⟩
    have hi' : i < l.length := by simpa using hi
    have e1 := flat_get l i c hi' hc
    rw [← htake, List.getElem?_take, if_pos (by omega)] at e1
    have e2 : (l.toArray)[i]! = l[i] := by rw [getElem!_pos _ i hi]; simp
    rw [e2]
    refine ⟨?_, ?_⟩
    · unfold World.cell?
      simp only [hh]
      simpa using e1
    · unfold World.frozen?
      simp [hh]
end Go.Proofs.Ytmigddempeecoaa
