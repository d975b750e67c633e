/- Walks: Ratio of a train; the statements' own look whether a train is one. -/
import Derived.Test.YtoenimkgagndnaaGe
import Derived.Test.YtoenimkgagndnaaCMul
namespace Go.Proofs.Ytoenimkgagndnaa
set_option linter.unusedVariables false
set_option linter.unusedSimpArgs false
open Go.RowKit Go.Lib

def prodL (xs : List Int) : Int := xs.foldl (· * ·) 1
theorem prodL_take {xs : List Int} {k : Nat} (h : k < xs.length) : prodL (xs.take (k + 1)) = prodL (xs.take k) * xs.getD k 0 := by
  unfold prodL
  rw [List.take_succ_eq_append_getElem h, List.foldl_append]
  simp [h]
theorem pow200 (k : Nat) (h : k ≤ 6) : (200 : Int) ^ k ≤ 64000000000000 ∧ (1 : Int) ≤ 200 ^ k := by
  rcases (show k = 0 ∨ k = 1 ∨ k = 2 ∨ k = 3 ∨ k = 4 ∨ k = 5 ∨ k = 6 by omega) with rfl | rfl | rfl | rfl | rfl | rfl | rfl <;> decide
def inT (x : Int) : Prop := 1 ≤ x ∧ x ≤ 200
instance (x : Int) : Decidable (inT x) := by unfold inT; infer_instance
theorem prodL_bd {xs : List Int} : ∀ {k : Nat}, k ≤ xs.length → (∀ i, i < k → inT (xs.getD i 0)) → 1 ≤ prodL (xs.take k) ∧ prodL (xs.take k) ≤ 200 ^ k
  | 0, _, _ => by simp [prodL]
  | k + 1, h, hi => by
    obtain ⟨h1, h2⟩ := prodL_bd (k := k) (by omega) (fun i hk => hi i (by omega))
    obtain ⟨h3, h4⟩ := hi k (by omega)
    rw [prodL_take (by omega), Int.pow_succ]
    have a := Int.mul_le_mul h1 h3 (by omega) (by omega)
    have b := Int.mul_le_mul h2 h4 (by omega) (show (0 : Int) ≤ 200 ^ k by omega)
    omega
theorem all_getD {xs : List Int} : (∀ x ∈ xs, inT x) ↔ ∀ i, i < xs.length → inT (xs.getD i 0) := by
  constructor
  · intro h i hi
    have := h _ (List.getElem_mem hi)
    simpa [hi] using this
  · intro h x hx
    obtain ⟨i, hi, rfl⟩ := List.mem_iff_getElem.1 hx
    have := h i hi
    simpa [hi] using this

/-- As many wheels as pinions, at most so many, and teeth in their range. -/
def okT (most : Int) (xs ys : List Int) : Prop := (1 ≤ xs.length ∧ (xs.length : Int) ≤ most) ∧ ys.length = xs.length ∧ (∀ x ∈ xs, inT x) ∧ ∀ y ∈ ys, inT y
instance (most : Int) (xs ys : List Int) : Decidable (okT most xs ys) := by unfold okT; infer_instance
/-- What Ratio returns. -/
def ratV (xs ys : List Int) : Value := if okT 6 xs ys then redV false (prodL xs).natAbs (prodL ys).natAbs else .tuple #[.agg #[.int .i64 0, .int .i64 0], .int .i64 1]

set_option maxHeartbeats 2000000 in
set_option maxRecDepth 100000 in
theorem ratio_loop (g o q p n c e : Nat) (xs ys : List Int) (w : World) (hxl : Hid (xs.length = n)) (hyl : Hid (ys.length = n)) (n1 : 1 ≤ n) (n6 : n ≤ 6) (hc : n ≤ c) (he : n ≤ e)
    (HX : Hid (∀ i, i < n → w.cell? ⟨g, o + i, none⟩ = some (.int .i64 (xs.getD i 0)))) (HY : Hid (∀ i, i < n → w.cell? ⟨q, p + i, none⟩ = some (.int .i64 (ys.getD i 0)))) :
    Calls Try.prog 33 #[.agg #[.slice (some ⟨g, o, none⟩) n c, .slice (some ⟨q, p, none⟩) n e]] w fun v w' => v = .returned (ratV xs ys) ∧ Gro w w' := by
  have HI1 := fun W => Lib.hid (inRange_any (n : Int) 1 6 W)
  rw [show decide ((1 : Int) ≤ n ∧ (n : Int) ≤ 6) = true by simp; omega] at HI1
  have hgw := World.block_lt_of_cell? _ _ (HX.out 0 (by omega))
  have hqw := World.block_lt_of_cell? _ _ (HY.out 0 (by omega))
  simp only at hgw hqw
  have t0 : ((n : Int) != (n : Int)) = false := by simp
  go_enter Try.func33, Try.ntmps33
  go_wp2_with (go_at_call 72; ((with_reducible refine (HI1 _).out.mono ?_); rintro y w' ⟨rfl, rfl⟩))
  go_loop [4, 5, 27] (fun s t u => ∃ k : Nat, k ≤ n ∧ u = .int .i64 k ∧ s = .int .i64 (prodL (xs.take k)) ∧ t = .int .i64 (prodL (ys.take k)) ∧ Hid ((∀ i, i < k → inT (xs.getD i 0)) ∧ ∀ i, i < k → inT (ys.getD i 0))) (fun _ _ u => n - (intOf u).toNat)
  case atStart => exact ⟨0, Nat.zero_le _, rfl, rfl, rfl, ⟨fun i h => by omega, fun i h => by omega⟩⟩
  case round =>
    obtain ⟨k, hk, rfl, rfl, rfl, hI⟩ := hrel
    have b1 := prodL_bd (xs := xs) (k := k) (by have := hxl.out; omega) hI.out.1
    have b2 := prodL_bd (xs := ys) (k := k) (by have := hyl.out; omega) hI.out.2
    have b3 := pow200 k (by omega)
    by_cases hlt : k < n
    · have c1 : w.cell? ⟨g, o + k, none⟩ = some (.int .i64 (xs.getD k 0)) := HX.out k hlt
      have c2 : w.cell? ⟨q, p + k, none⟩ = some (.int .i64 (ys.getD k 0)) := HY.out k hlt
      have k0 : (0 : Int) ≤ (k : Int) := by omega
      have kn : (k : Int) < (n : Int) := by omega
      have HS : Hid (prodL (xs.take (k + 1)) = prodL (xs.take k) * xs.getD k 0 ∧ prodL (ys.take (k + 1)) = prodL (ys.take k) * ys.getD k 0) := ⟨prodL_take (by have := hxl.out; omega), prodL_take (by have := hyl.out; omega)⟩
      have HX2 := fun W => Lib.hid (inRange_any (xs.getD k 0) 1 200 W)
      have HY2 := fun W => Lib.hid (inRange_any (ys.getD k 0) 1 200 W)
      by_cases hx : inT (xs.getD k 0)
      · by_cases hy : inT (ys.getD k 0)
        · have hI2 : Hid ((∀ i, i < k + 1 → inT (xs.getD i 0)) ∧ ∀ i, i < k + 1 → inT (ys.getD i 0)) := by
            refine ⟨fun i hi => ?_, fun i hi => ?_⟩
            · rcases (show i < k ∨ i = k by omega) with h | h
              · exact hI.out.1 i h
              · rw [h]; exact hx
            · rcases (show i < k ∨ i = k by omega) with h | h
              · exact hI.out.2 i h
              · rw [h]; exact hy
          have d1 := prodL_bd (xs := xs) (k := k + 1) (by have := hxl.out; omega) hI2.out.1
          have d2 := prodL_bd (xs := ys) (k := k + 1) (by have := hyl.out; omega) hI2.out.2
          have d3 := pow200 (k + 1) (by omega)
          rw [HS.out.1] at d1
          rw [HS.out.2] at d2
          rw [show decide (1 ≤ xs.getD k 0 ∧ xs.getD k 0 ≤ 200) = true from decide_eq_true hx] at HX2
          rw [show decide (1 ≤ ys.getD k 0 ∧ ys.getD k 0 ≤ 200) = true from decide_eq_true hy] at HY2
          unfold inT at hx hy
          generalize hX : xs.getD k 0 = x at *
          generalize hY : ys.getD k 0 = y at *
          generalize hP : prodL (xs.take k) = P at *
          generalize hQ : prodL (ys.take k) = R at *
          generalize (200 : Int) ^ k = z at *
          generalize (200 : Int) ^ (k + 1) = z' at *
          have HN := Lib.hid (show prodL (xs.take (k + 1)) = P * x ∧ prodL (ys.take (k + 1)) = R * y from HS.out)
          clear hX hY hP hQ HS hI
          go_wp2_with (first | (go_at_call 72; ((with_reducible refine (HX2 _).out.mono ?_); rintro y w' ⟨rfl, rfl⟩)) | (go_at_call 72; ((with_reducible refine (HY2 _).out.mono ?_); rintro y w' ⟨rfl, rfl⟩)))
          refine ⟨⟨k + 1, by omega, by go_num, by rw [HN.out.1], by rw [HN.out.2], hI2⟩, by simp [intOf]; omega⟩
        · have HV : Hid (ratV xs ys = .tuple #[.agg #[.int .i64 0, .int .i64 0], .int .i64 1]) := by
            refine if_neg fun h => hy ?_
            exact all_getD.1 h.2.2.2 k (by have := hyl.out; omega)
          rw [show decide (1 ≤ xs.getD k 0 ∧ xs.getD k 0 ≤ 200) = true from decide_eq_true hx] at HX2
          rw [show decide (1 ≤ ys.getD k 0 ∧ ys.getD k 0 ≤ 200) = false from decide_eq_false hy] at HY2
          generalize xs.getD k 0 = x at *
          generalize ys.getD k 0 = y at *
          clear HS hI hy hx b1 b2
          go_wp2_with (first | (go_at_call 72; ((with_reducible refine (HX2 _).out.mono ?_); rintro y w' ⟨rfl, rfl⟩)) | (go_at_call 72; ((with_reducible refine (HY2 _).out.mono ?_); rintro y w' ⟨rfl, rfl⟩)))
          exact bodyPost_ret (v := .tuple #[.agg #[.int .i64 0, .int .i64 0], .int .i64 1]) (by simp [results, Try.results33, go_sem]) rfl ⟨by rw [HV.out], by (with_reducible repeat (first | exact gro_refl _ | refine gro_alloc ?_ _ | refine gro_drew ?_ | refine gro_drewN ?_ _ | (refine gro_set ?_ ?_ _; (focus first | omega | (dsimp only; omega)))))⟩
      · have HV : Hid (ratV xs ys = .tuple #[.agg #[.int .i64 0, .int .i64 0], .int .i64 1]) := by
          refine if_neg fun h => hx ?_
          exact all_getD.1 h.2.2.1 k (by have := hxl.out; omega)
        rw [show decide (1 ≤ xs.getD k 0 ∧ xs.getD k 0 ≤ 200) = false from decide_eq_false hx] at HX2
        generalize xs.getD k 0 = x at *
        generalize ys.getD k 0 = y at *
        clear HS hI hx b1 b2 HY2
        go_wp2_with (go_at_call 72; ((with_reducible refine (HX2 _).out.mono ?_); rintro y w' ⟨rfl, rfl⟩))
        exact bodyPost_ret (v := .tuple #[.agg #[.int .i64 0, .int .i64 0], .int .i64 1]) (by simp [results, Try.results33, go_sem]) rfl ⟨by rw [HV.out], by (with_reducible repeat (first | exact gro_refl _ | refine gro_alloc ?_ _ | refine gro_drew ?_ | refine gro_drewN ?_ _ | (refine gro_set ?_ ?_ _; (focus first | omega | (dsimp only; omega)))))⟩
    · obtain rfl : k = n := by omega
      have e1 : xs.take k = xs := List.take_of_length_le (by have := hxl.out; omega)
      have e2 : ys.take k = ys := List.take_of_length_le (by have := hyl.out; omega)
      rw [e1] at b1 ⊢
      rw [e2] at b2 ⊢
      clear e1 e2
      have HM := fun W => Lib.hid (make_red (prodL xs) (prodL ys) W (by omega) (by omega) (by omega) (by omega) (by omega))
      rw [show (decide (prodL xs < 0) != decide (prodL ys < 0)) = false by rw [decide_eq_false (by omega), decide_eq_false (by omega)]; rfl] at HM
      have HV0 : ratV xs ys = redV false (prodL xs).natAbs (prodL ys).natAbs := by
        refine if_pos ⟨⟨by have := hxl.out; omega, by have := hxl.out; omega⟩, by have := hxl.out; have := hyl.out; omega, ?_, ?_⟩
        · exact all_getD.2 fun i hi => hI.out.1 i (by have := hxl.out; omega)
        · exact all_getD.2 fun i hi => hI.out.2 i (by have := hyl.out; omega)
      obtain ⟨u, v, c', hr⟩ := red_form false (prodL xs).natAbs (prodL ys).natAbs
      rw [hr] at HM HV0
      have HV := Lib.hid HV0
      generalize prodL xs = P at *
      generalize prodL ys = R at *
      clear HV0 hr hI
      go_wp2_with (go_at_call 17; ((with_reducible refine (HM _).out.mono ?_); rintro y w2 ⟨rfl, hk2⟩; have hb2 := hk2.below; have ⟨r0, r1⟩ : w2.cell? ⟨w.heap.size + 1, 0, none⟩ = some (.int .i64 0) ∧ w2.cell? ⟨w.heap.size + 1, 1, none⟩ = some (.int .i64 0) := (by and_intros <;> (with_reducible repeat (first | refine kc_drew ?_ | refine kc_drewN _ ?_ | refine kc_below hb2 ?_ | (refine kc_new ?_ ?_; (focus first | rfl | (simp only [World.size_alloc, World.size_setCell, World.size_drew, size_drewN]; done)); (focus first | rfl | (simp; done))) | (refine kc_set0 ?_ ?_; (focus first | rfl | (simp; done))) | exact ct_of (by assumption) | refine ct_drew ?_ | refine ct_drewN _ ?_ | refine ct_below hb2 ?_ | (refine ct_new ?_ ?_; (focus first | rfl | (simp only [World.size_alloc, World.size_setCell, World.size_drew, size_drewN]; done)); (focus first | rfl | (simp; done))) | refine ct_set _ _ ?_ | refine ct_alloc _ ?_ | (refine kc_set ?_ ?_; (focus first | (intro hx; injection hx; omega) | (simp; done))) | refine kc_alloc _ ?_))); have ⟨r2, r3⟩ : w2.frozen? ⟨w.heap.size + 1, 0, none⟩ = false ∧ w2.frozen? ⟨w.heap.size + 1, 1, none⟩ = false := (by and_intros <;> (with_reducible repeat (first | refine kf_drew ?_ | refine kf_drewN _ ?_ | (refine kf_new ?_ _; (focus first | rfl | (simp only [World.size_alloc, World.size_setCell, World.size_drew, size_drewN]; done))) | refine kf_set _ _ ?_ | (refine kf_below hb2 ?_ ?_; (focus simp only [World.size_alloc, World.size_setCell, World.size_drew, size_drewN]; omega)) | (refine kf_alloc _ ?_ ?_; (focus first | (simp only [World.size_alloc, World.size_setCell, World.size_drew, size_drewN]; omega) | (dsimp only; omega)))))); have hz2 := hb2.size; (try simp only [World.size_alloc, World.size_drew, size_drewN] at hz2); have g2 : w.heap.size + 1 < w2.heap.size := (by omega)))
      exact bodyPost_ret (v := .tuple #[.agg #[.int .i64 u, .int .i64 v], .int .i64 c']) (by simp [results, Try.results33, go_sem, r0, r1, g2, Nat.ne_of_lt g2]) rfl ⟨by rw [HV.out], by (with_reducible repeat (first | exact gro_refl _ | refine gro_alloc ?_ _ | refine gro_drew ?_ | refine gro_drewN ?_ _ | (refine gro_set ?_ ?_ _; (focus first | omega | (dsimp only; omega))) | refine gro_call ?_ hk2))⟩

theorem rat_short (xs ys : List Int) (h : ¬ ((1 ≤ xs.length ∧ xs.length ≤ 6) ∧ ys.length = xs.length)) : ratV xs ys = .tuple #[.agg #[.int .i64 0, .int .i64 0], .int .i64 1] :=
  if_neg fun ⟨h1, h2, _⟩ => h ⟨by omega, h2⟩

set_option maxHeartbeats 1000000 in
theorem ratioF_any (a b : Option Addr) (n c m e : Nat) (xs ys : List Int) (w : World) (hx : Rd w (.slice a n c) xs) (hy : Rd w (.slice b m e) ys) (hn : n ≤ 4611686018427387904) (hm : m ≤ 4611686018427387904) :
    Calls Try.prog 33 #[.agg #[.slice a n c, .slice b m e]] w fun v w' => v = .returned (ratV xs ys) ∧ Gro w w' := by
  obtain ⟨a', c', ha, hxc, hx⟩ := hx
  simp only [Value.slice.injEq] at ha
  obtain ⟨rfl, hxl, rfl⟩ := ha
  obtain ⟨b', e', hb, hyc, hy⟩ := hy
  simp only [Value.slice.injEq] at hb
  obtain ⟨rfl, hyl, rfl⟩ := hb
  have HI1 := fun W => Lib.hid (inRange_any (n : Int) 1 6 W)
  by_cases h1 : 1 ≤ n ∧ n ≤ 6
  · by_cases h2 : m = n
    · subst h2
      rcases hx with rfl | ⟨g, o, rfl, hx⟩
      · simp at hxl; omega
      · rcases hy with rfl | ⟨q, p, rfl, hy⟩
        · simp at hyl; omega
        · exact ratio_loop g o q p m c e xs ys w hxl.symm hyl.symm h1.1 h1.2 (by omega) (by omega) (fun i hi => hx i (by omega)) (fun i hi => hy i (by omega))
    · have HV := Lib.hid (rat_short xs ys (by omega))
      rw [show decide ((1 : Int) ≤ n ∧ (n : Int) ≤ 6) = true by simp; omega] at HI1
      have t0 : ((m : Int) != (n : Int)) = true := by simp; omega
      clear hx hy hxl hyl hxc hyc h2
      go_enter Try.func33, Try.ntmps33
      go_wp2_with (go_at_call 72; ((with_reducible refine (HI1 _).out.mono ?_); rintro y w' ⟨rfl, rfl⟩))
      exact bodyPost_ret (v := .tuple #[.agg #[.int .i64 0, .int .i64 0], .int .i64 1]) (by simp [results, Try.results33, go_sem]) rfl ⟨by rw [HV.out], by (with_reducible repeat (first | exact gro_refl _ | refine gro_alloc ?_ _ | refine gro_drew ?_ | refine gro_drewN ?_ _ | (refine gro_set ?_ ?_ _; (focus first | omega | (dsimp only; omega)))))⟩
  · have HV := Lib.hid (rat_short xs ys (by omega))
    rw [show decide ((1 : Int) ≤ n ∧ (n : Int) ≤ 6) = false by simp; omega] at HI1
    clear hx hy hxl hyl hxc hyc h1
    go_enter Try.func33, Try.ntmps33
    go_wp2_with (go_at_call 72; ((with_reducible refine (HI1 _).out.mono ?_); rintro y w' ⟨rfl, rfl⟩))
    exact bodyPost_ret (v := .tuple #[.agg #[.int .i64 0, .int .i64 0], .int .i64 1]) (by simp [results, Try.results33, go_sem]) rfl ⟨by rw [HV.out], by (with_reducible repeat (first | exact gro_refl _ | refine gro_alloc ?_ _ | refine gro_drew ?_ | refine gro_drewN ?_ _ | (refine gro_set ?_ ?_ _; (focus first | omega | (dsimp only; omega)))))⟩
end Go.Proofs.Ytoenimkgagndnaa
