/- The reference's sum and first: lists of teeth. -/
import Derived.Test.YtoenimkgagndnaaCRtrain
import Derived.Deep.LoopGhost
import Derived.BigQuiet
import Derived.Deep.QuietTactic
namespace Go.Proofs.Ytoenimkgagndnaa
set_option linter.unusedVariables false
set_option linter.unusedSimpArgs false
open Go.RowKit Go.Lib

def sumL (xs : List Int) : Int := xs.foldl (· + ·) 0
theorem sumL_take {xs : List Int} {k : Nat} (h : k < xs.length) : sumL (xs.take (k + 1)) = sumL (xs.take k) + xs.getD k 0 := by
  unfold sumL
  rw [List.take_succ_eq_append_getElem h, List.foldl_append]
  simp [h]
theorem sumL_bd {xs : List Int} : ∀ {k : Nat}, k ≤ xs.length → (∀ i, i < k → inT (xs.getD i 0)) → 0 ≤ sumL (xs.take k) ∧ sumL (xs.take k) ≤ 200 * k
  | 0, _, _ => by simp [sumL]
  | k + 1, hk, h => by
    rw [sumL_take (by omega)]
    have h1 := sumL_bd (xs := xs) (k := k) (by omega) (fun i hi => h i (by omega))
    have h2 := h k (by omega)
    unfold inT at h2
    omega
theorem rdl_len {W : World} {a : Option Addr} {n c : Nat} {xs : List Int} (h : Rd W (.slice a n c) xs) : xs.length = n ∧ n ≤ c := by
  obtain ⟨a', c', he, hc, _⟩ := h
  simp only [Value.slice.injEq] at he
  obtain ⟨_, rfl, rfl⟩ := he
  exact ⟨rfl, hc⟩
theorem rdl_at {W : World} {a : Option Addr} {n c : Nat} {xs : List Int} (h : Rd W (.slice a n c) xs) {i : Nat} (hi : i < n) : ∃ g o, a = some ⟨g, o, none⟩ ∧ W.cell? ⟨g, o + i, none⟩ = some (.int .i64 (xs.getD i 0)) := by
  obtain ⟨a', c', he, hc, hr⟩ := h
  simp only [Value.slice.injEq] at he
  obtain ⟨rfl, rfl, rfl⟩ := he
  rcases hr with rfl | ⟨g, o, rfl, hX⟩
  · simp at hi
  · exact ⟨g, o, rfl, hX i hi⟩

set_option maxHeartbeats 2000000 in
set_option maxRecDepth 100000 in
theorem sum_any (a : Option Addr) (n c : Nat) (xs : List Int) (w : World) (hx : Rd w (.slice a n c) xs) (hn : n ≤ 1000) (hX : ∀ x ∈ xs, inT x) :
    Calls Try.prog 86 #[.slice a n c] w fun v w' => v = .returned (.int .i64 (sumL xs)) ∧ Below w.heap.size w w' := by
  obtain ⟨xl, hxc⟩ := rdl_len hx
  have HX := Lib.hid hx
  have HXL := Lib.hid xl
  have IX : Hid (∀ i, i < n → inT (xs.getD i 0)) := by rw [← xl]; exact all_getD.1 hX
  have BD : Hid (∀ k, k ≤ n → 0 ≤ sumL (xs.take k) ∧ sumL (xs.take k) ≤ 200 * k) := fun k hk => sumL_bd (by omega) (fun i hi => IX.out i (by omega))
  have HT : Hid (xs.take n = xs) := List.take_of_length_le (by omega)
  have hnc : (n : Int) ≤ (c : Int) := by omega
  clear hx hX xl
  go_enter Try.func86, Try.ntmps86
  go_wp2_with fail
  go_loopg [3, 4] n (fun gh r u wr => ∃ k : Nat, k ≤ n ∧ n - k ≤ gh ∧ r = .int .i64 (sumL (xs.take k)) ∧ u = .int .i64 k ∧ wr = w)
  case atStart => exact ⟨0, Nat.zero_le _, by omega, by simp [sumL], rfl, rfl⟩
  case round =>
    obtain ⟨k, hk, hgh, rfl, rfl, rfl⟩ := hrel
    by_cases h : k < n
    · have h' : (k : Int) < (n : Int) := by omega
      obtain ⟨g, o, rfl, c1⟩ := rdl_at HX.out h
      have hxi := IX.out k h
      have b1 := BD.out k hk
      have PX : Hid (sumL (xs.take (k + 1)) = sumL (xs.take k) + xs.getD k 0) := sumL_take (by rw [HXL.out]; exact h)
      unfold inT at hxi
      generalize sumL (xs.take k) = S at *
      generalize xs.getD k 0 = x at *
      clear HX
      go_wp2_with fail
      go_roundg (n - (k + 1))
      case measure => omega
      case rel => exact ⟨k + 1, by omega, by omega, by rw [PX.out], by go_num, rfl⟩
    · obtain rfl : k = n := by omega
      rw [HT.out]
      have h' : ¬ (k : Int) < (k : Int) := by omega
      go_wp2_with fail
      go_ret
      exact ⟨rfl, Below.refl _ _⟩

/-- How two lists compare: nothing differs as far as both go, or the first difference. -/
def FirstR (n m : Nat) (xs ys : List Int) (r : Int) : Prop :=
  (r = 0 ∧ ∀ i, i < n → i < m → xs.getD i 0 = ys.getD i 0) ∨ ∃ k, k < n ∧ k < m ∧ (∀ i, i < k → xs.getD i 0 = ys.getD i 0) ∧ xs.getD k 0 ≠ ys.getD k 0 ∧ r = xs.getD k 0 - ys.getD k 0

set_option maxHeartbeats 2000000 in
set_option maxRecDepth 100000 in
theorem first_any (a b : Option Addr) (n c m e : Nat) (xs ys : List Int) (w : World) (hx : Rd w (.slice a n c) xs) (hy : Rd w (.slice b m e) ys) (hn : n ≤ 1000) (hm : m ≤ 1000) (hX : ∀ x ∈ xs, inT x) (hY : ∀ y ∈ ys, inT y) :
    Calls Try.prog 87 #[.slice a n c, .slice b m e] w fun v w' => ∃ r : Int, v = .returned (.int .i64 r) ∧ Hid (FirstR n m xs ys r) ∧ Below w.heap.size w w' := by
  obtain ⟨xl, hxc⟩ := rdl_len hx
  obtain ⟨yl, hyc⟩ := rdl_len hy
  have HX := Lib.hid hx
  have HY := Lib.hid hy
  have IX : Hid (∀ i, i < n → inT (xs.getD i 0)) := by rw [← xl]; exact all_getD.1 hX
  have IY : Hid (∀ i, i < m → inT (ys.getD i 0)) := by rw [← yl]; exact all_getD.1 hY
  have hnc : (n : Int) ≤ (c : Int) := by omega
  have hme : (m : Int) ≤ (e : Int) := by omega
  clear hx hX xl hy hY yl
  go_enter Try.func87, Try.ntmps87
  go_wp2_with fail
  go_loopg [5] n (fun gh u wr => ∃ k j : Nat, k ≤ n ∧ k ≤ m ∧ n - k ≤ gh ∧ u = .int .i64 k ∧ Hid (∀ i, i < k → xs.getD i 0 = ys.getD i 0) ∧ wr = w.drewN j)
  case atStart => exact ⟨0, 0, Nat.zero_le _, Nat.zero_le _, by omega, rfl, fun i hi => absurd hi (by omega), rfl⟩
  case round =>
    obtain ⟨k, j, hkn, hkm, hgh, rfl, hE, rfl⟩ := hrel
    by_cases h : k < n
    · have h' : (k : Int) < (n : Int) := by omega
      by_cases h2 : k < m
      · have h2' : (k : Int) < (m : Int) := by omega
        obtain ⟨g, o, rfl, c1⟩ := rdl_at HX.out h
        obtain ⟨g2, o2, rfl, c2⟩ := rdl_at HY.out h2
        have hxi := IX.out k h
        have hyi := IY.out k h2
        unfold inT at hxi hyi
        by_cases hxy : xs.getD k 0 = ys.getD k 0
        · have hN : Hid (∀ i, i < k + 1 → xs.getD i 0 = ys.getD i 0) := fun i hi => by
            rcases (show i < k ∨ i = k by omega) with h | h
            · exact hE.out i h
            · rw [h]; exact hxy
          rw [hxy] at c1 hxi
          clear hxy hE HX HY
          generalize ys.getD k 0 = y at *
          go_wp2_with fail
          go_quiet (fail)
          go_wp2_with fail
          go_roundg (n - (k + 1))
          case measure => omega
          case rel => exact ⟨k + 1, _, by omega, by omega, by omega, by go_num, hN, by first | rfl | (rw [World.drewN_drewN]; done) | (rw [World.drewN_drewN, World.drewN_drewN])⟩
        · have HF : Hid (FirstR n m xs ys (xs.getD k 0 - ys.getD k 0)) := .inr ⟨k, h, h2, hE.out, hxy, rfl⟩
          clear hE HX HY
          generalize xs.getD k 0 = x at *
          generalize ys.getD k 0 = y at *
          have t1 : (x != y) = true := by simpa using hxy
          clear hxy
          go_wp2_with fail
          go_quiet (fail)
          go_wp2_with fail
          go_quiet (fail)
          go_wp2_with fail
          go_ret
          exact ⟨_, rfl, HF, by (with_reducible repeat (first | exact Below.refl _ _ | refine bl_alloc ?_ _ | refine bl_drew ?_ | refine bl_drewN ?_ _ | (refine bl_set ?_ ?_ _; (focus dsimp only; omega))))⟩
      · have h2' : ¬ (k : Int) < (m : Int) := by omega
        have HF : Hid (FirstR n m xs ys 0) := .inl ⟨rfl, fun i _ hi => hE.out i (by omega)⟩
        clear hE HX HY
        go_wp2_with fail
        go_ret
        exact ⟨_, rfl, HF, by (with_reducible repeat (first | exact Below.refl _ _ | refine bl_alloc ?_ _ | refine bl_drew ?_ | refine bl_drewN ?_ _ | (refine bl_set ?_ ?_ _; (focus dsimp only; omega))))⟩
    · have h' : ¬ (k : Int) < (n : Int) := by omega
      have HF : Hid (FirstR n m xs ys 0) := .inl ⟨rfl, fun i hi _ => hE.out i (by omega)⟩
      clear hE HX HY
      go_wp2_with fail
      go_ret
      exact ⟨_, rfl, HF, by (with_reducible repeat (first | exact Below.refl _ _ | refine bl_alloc ?_ _ | refine bl_drew ?_ | refine bl_drewN ?_ _ | (refine bl_set ?_ ?_ _; (focus dsimp only; omega))))⟩

/-- The first difference of two lists, 0 if there is none. -/
def firstF : List Int → List Int → Int
  | x :: xs, y :: ys => if x = y then firstF xs ys else x - y
  | _, _ => 0
theorem firstR_eq : ∀ (xs ys : List Int) (r : Int), FirstR xs.length ys.length xs ys r → r = firstF xs ys
  | [], ys, r, h => by
    rcases h with ⟨h, _⟩ | ⟨k, h, _⟩
    · simpa [firstF] using h
    · simp at h
  | x :: xs, [], r, h => by
    rcases h with ⟨h, _⟩ | ⟨k, _, h, _⟩
    · simpa [firstF] using h
    · simp at h
  | x :: xs, y :: ys, r, h => by
    unfold firstF
    rcases h with ⟨h, hall⟩ | ⟨k, h1, h2, hall, hne, hr⟩
    · have h0 := hall 0 (by simp) (by simp)
      simp only [List.getD_cons_zero] at h0
      rw [if_pos h0]
      refine firstR_eq xs ys r (.inl ⟨h, fun i hi hi' => ?_⟩)
      have := hall (i + 1) (by simpa using hi) (by simpa using hi')
      simpa using this
    · cases k with
      | zero =>
        simp only [List.getD_cons_zero] at hne hr
        rw [if_neg hne]
        exact hr
      | succ k =>
        have h0 := hall 0 (by omega)
        simp only [List.getD_cons_zero] at h0
        rw [if_pos h0]
        refine firstR_eq xs ys r (.inr ⟨k, by simpa using h1, by simpa using h2, fun i hi => ?_, by simpa using hne, by simpa using hr⟩)
        have := hall (i + 1) (by omega)
        simpa using this
theorem firstF_any (a b : Option Addr) (n c m e : Nat) (xs ys : List Int) (w : World) (hx : Rd w (.slice a n c) xs) (hy : Rd w (.slice b m e) ys) (hn : n ≤ 1000) (hm : m ≤ 1000) (hX : ∀ x ∈ xs, inT x) (hY : ∀ y ∈ ys, inT y) :
    Calls Try.prog 87 #[.slice a n c, .slice b m e] w fun v w' => v = .returned (.int .i64 (firstF xs ys)) ∧ Below w.heap.size w w' := by
  have xl := (rdl_len hx).1
  have yl := (rdl_len hy).1
  refine (first_any a b n c m e xs ys w hx hy hn hm hX hY).mono ?_
  rintro v w' ⟨r, rfl, hr, hb⟩
  have h := hr.out
  rw [← xl, ← yl] at h
  rw [firstR_eq xs ys r h]
  exact ⟨rfl, hb⟩
end Go.Proofs.Ytoenimkgagndnaa
