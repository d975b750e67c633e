/- Texts that gearBest_holds reaches: Lives, App, Red, Times, Mul, Rat, Rtrain, First. -/
import Derived.Test.YtoenimkgagndnaaBg
import Derived.Test.YtoenimkgagndnaaBh
import Derived.Test.YtoenimkgagndnaaBf
import Derived.ArgAppend
import Derived.Laws.OwnMore
import Derived.Deep.LoopGhost
import Derived.BigQuiet
import Derived.Deep.QuietTactic
namespace Go.Proofs.Ytoenimkgagndnaa
set_option linter.unusedVariables false
set_option linter.unusedSimpArgs false
open Go.RowKit Go.Lib

theorem rd_own {W : World} {base n m : Nat} {a : Option Addr} {xs : List Int} (hn : xs.length = n) (h : W.ownsRow base 3 1 (.slice a n m) n (xs.map (Value.int .i64))) : Rd W (.slice a n m) xs := by
  subst hn
  refine ⟨a, m, rfl, ?_, ?_⟩
  · rcases h.2 with ⟨h1, _⟩ | ⟨g, cap, cur, h1, _, _, h2, _⟩
    · simp at h1; omega
    · simp at h1; omega
  · rcases Go.Joins.ownsRow_forms h with ⟨_, h2⟩ | ⟨g, cap, h1⟩
    · exact .inl (List.eq_nil_of_length_eq_zero h2)
    · simp only [Value.slice.injEq, true_and] at h1
      obtain ⟨rfl, rfl⟩ := h1
      refine .inr ⟨g, 0, rfl, fun i hi => ?_⟩
      have := World.ownsRow.cellAt h i (by omega)
      rw [Nat.zero_add, this]
      simp [hi]
theorem rd_new {W : World} {t : TypeId} {b : Nat} (xs : List Int) (hb : W.heap.size = b) : Rd (W.alloc (.cells (xs.map (Value.int .i64)).toArray t)) (.slice (some ⟨b, 0, none⟩) xs.length xs.length) xs := by
  refine ⟨_, _, rfl, Nat.le_refl _, .inr ⟨b, 0, rfl, fun i hi => ?_⟩⟩
  refine kc_new hb ?_
  simp [hi]

theorem ex60 : exS 60 1 60 80 6 10 2 1 = ⟨2, w60, p60⟩ := by
  show (if (bestS 60 1 60 80 6 10 1).n < 1 then (if (bestS 60 1 60 80 6 10 2).n < 1 then _ else bestS 60 1 60 80 6 10 2) else _) = _
  have h1 : bestS 60 1 60 80 6 10 1 = zeroTr := pick_one
  have h2 : bestS 60 1 60 80 6 10 2 = ⟨2, w60, p60⟩ := pick_two
  rw [h1, h2]
  rfl

theorem exact60 (w : World) : Calls Try.prog 49 #[.agg #[.int .i64 60, .int .i64 1], .agg #[.int .i64 60, .int .i64 80, .int .i64 6, .int .i64 10, .int .i64 2]] w fun e w' =>
    ∃ a m b k, e = .returned (.tuple #[.agg #[.slice a 2 m, .slice b 2 k], .int .i64 0]) ∧ Hid (Rd w' (.slice a 2 m) [60, 60]) ∧ Hid (Rd w' (.slice b 2 k) [6, 10]) ∧ Below w.heap.size w w' := by
  refine (exact_fine 60 1 60 80 6 10 2 w (by decide)).mono ?_
  rintro e w' ⟨hb, h⟩
  rw [show (2 : Int).toNat = 2 from rfl, ex60] at h
  rcases h with ⟨h, _⟩ | ⟨st, a, m, b, k, hn, _, he, ho1, ho2⟩
  · simp at h
  · have : st = 2 := by simp at hn; omega
    subst this
    exact ⟨a, m, b, k, he, rd_own (xs := [60, 60]) rfl ho1, rd_own (xs := [6, 10]) rfl ho2, hb⟩

theorem between32 (w : World) : Calls Try.prog 24 #[.agg #[.int .i64 1, .int .i64 3], .agg #[.int .i64 1, .int .i64 2]] w fun e w' => e = .returned (.tuple #[.agg #[.int .i64 1, .int .i64 2], .int .i64 0]) ∧ Gro w w' :=
  between_any 1 3 1 2 w (by decide) (by decide) (by decide)

theorem same_yes (xs : List Int) (v u : Value) (w : World) (hv : Rd w v xs) (hu : Rd w u xs) (hn : xs.length ≤ 4611686018427387904) :
    Calls Try.prog 60 #[v, u] w fun e w' => e = .returned (.bool true) ∧ Gro w w' := by
  have h := same_any xs xs v u w hv hu hn hn
  rw [show sameB xs xs = true from decide_eq_true rfl] at h
  exact h

set_option maxHeartbeats 1000000 in
theorem lives_any (w : World) : Calls Try.prog 23 #[] w fun e w' => e = .returned (.bool true) ∧ Below w.heap.size w w' := by
  go_enter Try.func23, Try.ntmps23
  go_wp2_with (first | (go_at_call 24; refine (between32 _).mono ?_; rintro e w1 ⟨rfl, hk1⟩; have hb1 := hk1.below; have hz1 := hb1.size; have hB := hb1) | (go_at_call 49; refine (exact60 _).mono ?_; rintro e w2 ⟨a, m, b, k, rfl, hr1, hr2, hb2⟩; have ⟨k0, k1⟩ : w2.cell? ⟨w1.heap.size, 0, none⟩ = some (.int .i64 1) ∧ w2.cell? ⟨w1.heap.size, 1, none⟩ = some (.int .i64 2) := (by and_intros <;> (with_reducible repeat (first | refine kc_drew ?_ | refine kc_drewN _ ?_ | refine kc_below hb2 ?_ | (refine kc_new ?_ ?_; (· first | rfl | simp only [sZ]); (· first | rfl | simp)) | (refine kc_set0 ?_ ?_; (· first | rfl | simp)) | exact ct_of (by assumption) | refine ct_drew ?_ | refine ct_drewN _ ?_ | refine ct_below hb2 ?_ | (refine ct_new ?_ ?_; (· first | rfl | simp only [sZ]); (· first | rfl | simp)) | refine ct_set _ _ ?_ | refine ct_alloc _ ?_ | (refine kc_set ?_ ?_; (focus first | (intro hx; injection hx; omega) | (simp; done))) | refine kc_alloc _ ?_))); have hz2 := hb2.size; (try simp only [World.size_alloc, World.size_setCell] at hz2); have g2 : w1.heap.size < w2.heap.size := (by omega); have hB : Below w.heap.size w w2 := (by (with_reducible repeat (first | exact hB | exact bR | refine bA ?_ | refine bD ?_ | refine bN ?_ | (refine bS ?_ ?_; (· dsimp only; omega)) | refine bl_call ?_ hb2)))) | (go_at_call 60; refine (same_yes [60, 60] _ _ _ (hr1.out.below (by (repeat (first | with_reducible rfl | with_reducible exact Below.refl _ _ | with_reducible exact gro_refl _ | with_reducible refine kc_drew ?_ | with_reducible refine kc_drewN _ ?_ | with_reducible refine kf_drew ?_ | with_reducible refine kf_drewN _ ?_ | ((with_reducible refine kc_new ?_ ?_); (focus (first | with_reducible rfl | (simp only [sZ]; done))); (focus (first | rfl | (simp; done)))) | ((with_reducible refine kc_set0 ?_ ?_); (focus (first | rfl | (simp; done)))) | with_reducible refine ct_drew ?_ | with_reducible refine ct_drewN _ ?_ | ((with_reducible refine ct_new ?_ ?_); (focus (first | with_reducible rfl | (simp only [sZ]; done))); (focus (first | rfl | (simp; done)))) | with_reducible refine ct_set _ _ ?_ | with_reducible refine ct_alloc _ ?_ | ((with_reducible refine kc_set ?_ ?_); (focus (first | (intro hx; injection hx; omega) | (simp; done)))) | with_reducible refine kc_alloc _ ?_ | ((with_reducible refine kf_new ?_ _); (focus (first | with_reducible rfl | (simp only [sZ]; done)))) | with_reducible refine kf_set _ _ ?_ | ((with_reducible refine kf_alloc _ ?_ ?_); (focus (first | (simp only [sZ]; omega) | (dsimp only; omega)))) | with_reducible refine bl_alloc ?_ _ | with_reducible refine bl_drew ?_ | with_reducible refine bl_drewN ?_ _ | ((with_reducible refine bl_set ?_ ?_ _); (focus (dsimp only; omega))) | with_reducible refine gro_alloc ?_ _ | with_reducible refine gro_drew ?_ | with_reducible refine gro_drewN ?_ _ | ((with_reducible refine gro_set ?_ ?_ _); (focus (first | omega | (dsimp only; omega)))))))) (rd_new [60, 60] (by simp)) (by decide)).mono ?_; rintro e w3 ⟨rfl, hk3⟩; have hb3 := hk3.below; have ⟨q0, q1⟩ : w3.cell? ⟨w2.heap.size, 0, none⟩ = some (.slice a 2 m) ∧ w3.cell? ⟨w2.heap.size, 1, none⟩ = some (.slice b 2 k) := (by and_intros <;> (with_reducible repeat (first | refine kc_drew ?_ | refine kc_drewN _ ?_ | refine kc_below hb3 ?_ | (refine kc_new ?_ ?_; (· first | rfl | simp only [sZ]); (· first | rfl | simp)) | (refine kc_set0 ?_ ?_; (· first | rfl | simp)) | exact ct_of (by assumption) | refine ct_drew ?_ | refine ct_drewN _ ?_ | refine ct_below hb3 ?_ | (refine ct_new ?_ ?_; (· first | rfl | simp only [sZ]); (· first | rfl | simp)) | refine ct_set _ _ ?_ | refine ct_alloc _ ?_ | (refine kc_set ?_ ?_; (focus first | (intro hx; injection hx; omega) | (simp; done))) | refine kc_alloc _ ?_))); have hR := hr2.out.below (W1 := w3) (by (repeat (first | with_reducible rfl | with_reducible exact Below.refl _ _ | with_reducible exact gro_refl _ | with_reducible refine kc_drew ?_ | with_reducible refine kc_drewN _ ?_ | with_reducible refine kf_drew ?_ | with_reducible refine kf_drewN _ ?_ | with_reducible refine kc_below hb3 ?_ | ((with_reducible refine kc_new ?_ ?_); (focus (first | with_reducible rfl | (simp only [sZ]; done))); (focus (first | rfl | (simp; done)))) | ((with_reducible refine kc_set0 ?_ ?_); (focus (first | rfl | (simp; done)))) | with_reducible refine ct_drew ?_ | with_reducible refine ct_drewN _ ?_ | with_reducible refine ct_below hb3 ?_ | ((with_reducible refine ct_new ?_ ?_); (focus (first | with_reducible rfl | (simp only [sZ]; done))); (focus (first | rfl | (simp; done)))) | with_reducible refine ct_set _ _ ?_ | with_reducible refine ct_alloc _ ?_ | ((with_reducible refine kc_set ?_ ?_); (focus (first | (intro hx; injection hx; omega) | (simp; done)))) | with_reducible refine kc_alloc _ ?_ | ((with_reducible refine kf_new ?_ _); (focus (first | with_reducible rfl | (simp only [sZ]; done)))) | with_reducible refine kf_set _ _ ?_ | ((with_reducible refine kf_below hb3 ?_ ?_); (focus (simp only [sZ]; omega))) | ((with_reducible refine kf_alloc _ ?_ ?_); (focus (first | (simp only [sZ]; omega) | (dsimp only; omega)))) | with_reducible refine bl_alloc ?_ _ | with_reducible refine bl_drew ?_ | with_reducible refine bl_drewN ?_ _ | ((with_reducible refine bl_set ?_ ?_ _); (focus (dsimp only; omega))) | with_reducible refine bl_call ?_ hb3 | with_reducible refine gro_alloc ?_ _ | with_reducible refine gro_drew ?_ | with_reducible refine gro_drewN ?_ _ | ((with_reducible refine gro_set ?_ ?_ _); (focus (first | omega | (dsimp only; omega)))) | with_reducible refine gro_call ?_ hk3))); have HR := Lib.hid hR; clear hR hr1; have hz3 := hb3.size; (try simp only [World.size_alloc] at hz3); have g3 : w2.heap.size < w3.heap.size := (by omega); have hB : Below w.heap.size w w3 := (by (with_reducible repeat (first | exact hB | exact bR | refine bA ?_ | refine bD ?_ | refine bN ?_ | (refine bS ?_ ?_; (· dsimp only; omega)) | refine bl_call ?_ hb3)))) | (go_at_call 60; refine (same_yes [6, 10] _ _ _ (HR.out.below (by (repeat (first | with_reducible rfl | with_reducible exact Below.refl _ _ | with_reducible exact gro_refl _ | with_reducible refine kc_drew ?_ | with_reducible refine kc_drewN _ ?_ | with_reducible refine kf_drew ?_ | with_reducible refine kf_drewN _ ?_ | ((with_reducible refine kc_new ?_ ?_); (focus (first | with_reducible rfl | (simp only [sZ]; done))); (focus (first | rfl | (simp; done)))) | ((with_reducible refine kc_set0 ?_ ?_); (focus (first | rfl | (simp; done)))) | with_reducible refine ct_drew ?_ | with_reducible refine ct_drewN _ ?_ | ((with_reducible refine ct_new ?_ ?_); (focus (first | with_reducible rfl | (simp only [sZ]; done))); (focus (first | rfl | (simp; done)))) | with_reducible refine ct_set _ _ ?_ | with_reducible refine ct_alloc _ ?_ | ((with_reducible refine kc_set ?_ ?_); (focus (first | (intro hx; injection hx; omega) | (simp; done)))) | with_reducible refine kc_alloc _ ?_ | ((with_reducible refine kf_new ?_ _); (focus (first | with_reducible rfl | (simp only [sZ]; done)))) | with_reducible refine kf_set _ _ ?_ | ((with_reducible refine kf_alloc _ ?_ ?_); (focus (first | (simp only [sZ]; omega) | (dsimp only; omega)))) | with_reducible refine bl_alloc ?_ _ | with_reducible refine bl_drew ?_ | with_reducible refine bl_drewN ?_ _ | ((with_reducible refine bl_set ?_ ?_ _); (focus (dsimp only; omega))) | with_reducible refine gro_alloc ?_ _ | with_reducible refine gro_drew ?_ | with_reducible refine gro_drewN ?_ _ | ((with_reducible refine gro_set ?_ ?_ _); (focus (first | omega | (dsimp only; omega)))))))) (rd_new [6, 10] (by simp)) (by decide)).mono ?_; rintro e w4 ⟨rfl, hk4⟩; have hb4 := hk4.below))
  go_ret
  exact ⟨rfl, by (repeat (first | with_reducible exact hB | with_reducible rfl | with_reducible exact Below.refl _ _ | with_reducible exact gro_refl _ | with_reducible refine kc_drew ?_ | with_reducible refine kc_drewN _ ?_ | with_reducible refine kf_drew ?_ | with_reducible refine kf_drewN _ ?_ | with_reducible refine kc_below hb4 ?_ | ((with_reducible refine kc_new ?_ ?_); (focus (first | with_reducible rfl | (simp only [sZ]; done))); (focus (first | rfl | (simp; done)))) | ((with_reducible refine kc_set0 ?_ ?_); (focus (first | rfl | (simp; done)))) | with_reducible exact ct_of (hB) | with_reducible refine ct_drew ?_ | with_reducible refine ct_drewN _ ?_ | with_reducible refine ct_below hb4 ?_ | ((with_reducible refine ct_new ?_ ?_); (focus (first | with_reducible rfl | (simp only [sZ]; done))); (focus (first | rfl | (simp; done)))) | with_reducible refine ct_set _ _ ?_ | with_reducible refine ct_alloc _ ?_ | ((with_reducible refine kc_set ?_ ?_); (focus (first | (intro hx; injection hx; omega) | (simp; done)))) | with_reducible refine kc_alloc _ ?_ | ((with_reducible refine kf_new ?_ _); (focus (first | with_reducible rfl | (simp only [sZ]; done)))) | with_reducible refine kf_set _ _ ?_ | ((with_reducible refine kf_below hb4 ?_ ?_); (focus (simp only [sZ]; omega))) | ((with_reducible refine kf_alloc _ ?_ ?_); (focus (first | (simp only [sZ]; omega) | (dsimp only; omega)))) | with_reducible refine bl_alloc ?_ _ | with_reducible refine bl_drew ?_ | with_reducible refine bl_drewN ?_ _ | ((with_reducible refine bl_set ?_ ?_ _); (focus (dsimp only; omega))) | with_reducible refine bl_call ?_ hb4 | with_reducible refine gro_alloc ?_ _ | with_reducible refine gro_drew ?_ | with_reducible refine gro_drewN ?_ _ | ((with_reducible refine gro_set ?_ ?_ _); (focus (first | omega | (dsimp only; omega)))) | with_reducible refine gro_call ?_ hk4))⟩
end Go.Proofs.Ytoenimkgagndnaa
namespace Go.Proofs.Ytoenimkgagndnaa
set_option linter.unusedVariables false
set_option linter.unusedSimpArgs false
open Go.RowKit Go.Lib

/-- The same, in blocks from a number on. -/
def RdF (base : Nat) (W : World) (v : Value) (xs : List Int) : Prop :=
  ∃ (a : Option Addr) (cap : Nat), v = .slice a xs.length cap ∧ xs.length ≤ cap ∧ (xs = [] ∨ ∃ g o, base ≤ g ∧ a = some ⟨g, o, none⟩ ∧ ∀ i, i < xs.length → W.cell? ⟨g, o + i, none⟩ = some (.int .i64 (xs.getD i 0)))
theorem RdF.rd {base : Nat} {W : World} {v : Value} {xs : List Int} (h : RdF base W v xs) : Rd W v xs := by
  obtain ⟨a, cap, rfl, hc, h⟩ := h
  exact ⟨a, cap, rfl, hc, h.imp_right fun ⟨g, o, _, h1, h2⟩ => ⟨g, o, h1, h2⟩⟩
theorem RdF.below {base : Nat} {W W1 : World} {v : Value} {xs : List Int} (h : RdF base W v xs) (hb : Below W.heap.size W W1) : RdF base W1 v xs := by
  obtain ⟨a, cap, rfl, hc, h⟩ := h
  exact ⟨a, cap, rfl, hc, h.imp_right fun ⟨g, o, h0, h1, h2⟩ => ⟨g, o, h0, h1, fun i hi => kc_below hb (h2 i hi)⟩⟩
theorem RdF.mono {base b : Nat} {W : World} {v : Value} {xs : List Int} (h : RdF base W v xs) (hb : b ≤ base) : RdF b W v xs := by
  obtain ⟨a, cap, rfl, hc, h⟩ := h
  exact ⟨a, cap, rfl, hc, h.imp_right fun ⟨g, o, h0, h1, h2⟩ => ⟨g, o, Nat.le_trans hb h0, h1, h2⟩⟩
theorem RdF.set {base : Nat} {W : World} {v : Value} {xs : List Int} (h : RdF base W v xs) {b o : Nat} (hb : b < base) (u : Value) : RdF base (W.setCell ⟨b, o, none⟩ u) v xs := by
  obtain ⟨a, cap, rfl, hc, h⟩ := h
  exact ⟨a, cap, rfl, hc, h.imp_right fun ⟨g, o, h0, h1, h2⟩ => ⟨g, o, h0, h1, fun i hi => kc_set (fun he => by injection he; omega) (h2 i hi)⟩⟩
theorem rdF_own {W : World} {base n m : Nat} {a : Option Addr} {xs : List Int} (hn : xs.length = n) (h : W.ownsRow base 3 1 (.slice a n m) n (xs.map (Value.int .i64))) : RdF base W (.slice a n m) xs := by
  obtain ⟨a', cap, he, hc, hr⟩ := rd_own hn h
  refine ⟨a', cap, he, hc, hr.imp_right ?_⟩
  rintro ⟨g, o, rfl, h2⟩
  refine ⟨g, o, ?_, rfl, h2⟩
  simp only [Value.slice.injEq] at he
  obtain ⟨rfl, _, _⟩ := he
  rcases h.2 with ⟨h1, _⟩ | ⟨g', cap', cur, h1, h3, _⟩
  · cases h1
  · simp only [Value.slice.injEq, Option.some.injEq, Addr.mk.injEq] at h1
    omega

theorem run_app0 {w : World} (ty g : Nat) (ao : Option Addr) (m c : Nat) (xs : List Int) (hm : xs.length = m) (hr : xs = [] ∨ ∃ g o, ao = some ⟨g, o, none⟩ ∧ ∀ i, i < xs.length → w.cell? ⟨g, o + i, none⟩ = some (.int .i64 (xs.getD i 0)))
    (hb : m ≤ 1099511627776) :
    ∃ ao' cap' w', (Builtin.append_ #[35, 35] ty #[.slice (some ⟨g, 0, none⟩) 0 0, .slice ao m c]).run Try.prog w = .ok (.slice ao' m cap') w' ∧ Hid (RdF w.heap.size w' (.slice ao' m cap') xs) ∧ Below w.heap.size w w' := by
  obtain ⟨i0, hi, hz0, hz1, hz2⟩ := info_parts (show (Try.prog.info? 3).map (fun i => (i.zero, i.size, i.bytes)) = some (some (.int .i64 0), 1, 8) by kernel_rfl)
  rcases hr with rfl | ⟨g', o, rfl, hr⟩
  · subst hm
    refine ⟨some ⟨g, 0, none⟩, 0, w, ?_, ⟨_, _, rfl, Nat.zero_le _, .inl rfl⟩, Below.refl _ _⟩
    cases ao
    all_goals simp [loadCells, loadCellsFrom, Builtin.append_, run_underlying Try.underlying35, sizeOf, typeInfo, hi, Builtin.lenOf, Builtin.firstCells, storeCells]
  · subst hm
    by_cases h0 : xs.length = 0
    · have : xs = [] := List.eq_nil_of_length_eq_zero h0
      subst this
      refine ⟨some ⟨g, 0, none⟩, 0, w, ?_, ⟨_, _, rfl, Nat.zero_le _, .inl rfl⟩, Below.refl _ _⟩
      simp [loadCells, loadCellsFrom, Builtin.append_, run_underlying Try.underlying35, sizeOf, typeInfo, hi, Builtin.lenOf, Builtin.firstCells, storeCells]
    · obtain ⟨v', w', hrun, ho, hgr⟩ := run_append_arg_grows (P := Try.prog) (w := w) 35 ty 3 i0 _ 1 8 Try.underlying35 hi hz0 hz1 hz2 rfl (by decide) ⟨g, 0, none⟩ 0 0 [] rfl (fun j u h => by simp at h)
        ⟨g', o, none⟩ xs.length c (xs.map (Value.int .i64)) (by simp) (fun j u h => by
          obtain ⟨hj, he⟩ := List.getElem?_eq_some_iff.1 h
          simp only [List.length_map] at hj
          have := hr j hj
          rw [← he]
          simp only [List.getElem_map]
          rw [List.getD_eq_getElem?_getD, List.getElem?_eq_getElem hj, Option.getD_some] at this
          rw [Addr.add_lit]
          exact this) (by omega) (by unfold maxLen; omega) (by omega)
      rw [List.nil_append, Nat.zero_add] at ho
      obtain ⟨a', cap', rfl⟩ := own_slice ho
      exact ⟨a', cap', w', hrun, rdF_own rfl ho, (Below.refl _ _).grown hgr (Nat.le_refl _) (fun _ h => by cases h)⟩

/-- The step of a region: such a copy. -/
theorem step_app0 {ops : Array Oper} {o : Oper} {a : Act} {w : World} {K : Act → World → Prop} {Q : Exit → Act → World → Prop} {E : Prop} (hgd : o.guard = none) (s x : Operand)
    (hop : o.op = Op.call { callee := Callee.builtin Builtin.append, args := #[s, x], argTypes := #[35, 35] }) (g : Nat) (hs : a.eval s = .slice (some ⟨g, 0, none⟩) 0 0)
    (ao : Option Addr) (m c : Nat) (hx : a.eval x = .slice ao m c) (xs : List Int) (hm : xs.length = m) (hr : xs = [] ∨ ∃ g o, ao = some ⟨g, o, none⟩ ∧ ∀ i, i < xs.length → w.cell? ⟨g, o + i, none⟩ = some (.int .i64 (xs.getD i 0)))
    (hb : m ≤ 1099511627776)
    (hK : ∀ ao' cap' w', Hid (RdF w.heap.size w' (.slice ao' m cap') xs) → Below w.heap.size w w' → K (a.put o.dst (.slice ao' m cap')) w') :
    if Region.wanted o (yielded ops a.tmps) = true then Oper.wp Try.prog o a w K Q else E := by
  have hw : Region.wanted o (yielded ops a.tmps) = true := by simp [Region.wanted, hgd]
  rw [if_pos hw]
  obtain ⟨ao', cap', w', hrun, h1, h2⟩ := run_app0 (w := w) o.type g ao m c xs hm hr hb
  unfold Oper.wp
  simp [execOp, hop, resolve, invoke, builtin, hs, hx, hrun, Result.andThen]
  exact hK ao' cap' w' h1 h2

theorem wpList_app0 {w : World} {ops : Array Oper} {rest : List Oper} {o : Oper} {a : Act} {Q : Exit → Act → World → Prop} (hgd : o.guard = none) (s x : Operand)
    (hop : o.op = Op.call { callee := Callee.builtin Builtin.append, args := #[s, x], argTypes := #[35, 35] }) (g : Nat) (hs : a.eval s = .slice (some ⟨g, 0, none⟩) 0 0)
    (ao : Option Addr) (m c : Nat) (hx : a.eval x = .slice ao m c) (xs : List Int) (hm : xs.length = m) (hr : xs = [] ∨ ∃ g o, ao = some ⟨g, o, none⟩ ∧ ∀ i, i < xs.length → w.cell? ⟨g, o + i, none⟩ = some (.int .i64 (xs.getD i 0)))
    (hb : m ≤ 1099511627776)
    (hK : ∀ ao' cap' w', Hid (RdF w.heap.size w' (.slice ao' m cap') xs) → Below w.heap.size w w' → wpList Try.prog ops Q rest (a.put o.dst (.slice ao' m cap')) w') :
    wpList Try.prog ops Q (o :: rest) a w := by
  refine wpList_plain hgd fun K hK2 => ?_
  obtain ⟨ao', cap', w', hrun, h1, h2⟩ := run_app0 (w := w) o.type g ao m c xs hm hr hb
  unfold Oper.wp
  simp [execOp, hop, resolve, invoke, builtin, hs, hx, hrun, Result.andThen]
  exact hK2 _ _ (hK ao' cap' w' h1 h2)
end Go.Proofs.Ytoenimkgagndnaa
namespace Go.Proofs.Ytoenimkgagndnaa
set_option linter.unusedVariables false
set_option linter.unusedSimpArgs false
open Go.RowKit Go.Lib

/-- What is returned for a/b (or -a/b): the fraction in lowest terms, or that it is out of range. -/
def redV (neg : Bool) (a b : Nat) : Value :=
  if 4611686018427387904 < a / Nat.gcd a b ∨ 4611686018427387904 < b / Nat.gcd a b then .tuple #[.agg #[.int .i64 0, .int .i64 0], .int .i64 5]
  else .tuple #[.agg #[.int .i64 (if neg = true then -((a / Nat.gcd a b : Nat) : Int) else ((a / Nat.gcd a b : Nat) : Int)), .int .i64 ((b / Nat.gcd a b : Nat) : Int)], .int .i64 0]

theorem red_scale (neg : Bool) {k a b : Nat} (hk : 0 < k) : redV neg (k * a) (k * b) = redV neg a b := by
  unfold redV
  rw [Nat.gcd_mul_left, Nat.mul_div_mul_left _ _ hk, Nat.mul_div_mul_left _ _ hk]
theorem red_zero (p q : Bool) (b : Nat) : redV p 0 b = redV q 0 b := by
  unfold redV
  simp

/-- Make, in one word. -/
theorem make_red (num den : Int) (w : World) (hn : -9223372036854775808 ≤ num) (hn' : num ≤ 9223372036854775807) (hd : -9223372036854775808 ≤ den) (hd' : den ≤ 9223372036854775807) (h0 : den ≠ 0) :
    Calls Try.prog 17 #[.int .i64 num, .int .i64 den] w fun e w' => e = .returned (redV (decide (num < 0) != decide (den < 0)) num.natAbs den.natAbs) ∧ Gro w w' := by
  refine (make_any num den w hn hn' hd hd').mono ?_
  rintro e w' ⟨hg, hm⟩
  refine ⟨?_, hg⟩
  rcases hm with ⟨h, _⟩ | ⟨_, h⟩
  · exact absurd h h0
  · have h' := h _ _ rfl rfl
    clear h
    unfold redV
    generalize num.natAbs / Nat.gcd num.natAbs den.natAbs = A at *
    generalize den.natAbs / Nat.gcd num.natAbs den.natAbs = B at *
    rcases h' with ⟨h1, he⟩ | ⟨h1, he⟩
    · rw [he, if_pos (show 4611686018427387904 < A ∨ 4611686018427387904 < B by omega)]
    · rw [he, if_neg (show ¬ (4611686018427387904 < A ∨ 4611686018427387904 < B) by omega)]

end Go.Proofs.Ytoenimkgagndnaa
namespace Go.Proofs.Ytoenimkgagndnaa
set_option linter.unusedVariables false
set_option linter.unusedSimpArgs false
open Go.RowKit Go.Lib

theorem red_form (neg : Bool) (a b : Nat) : ∃ u v c : Int, redV neg a b = .tuple #[.agg #[.int .i64 u, .int .i64 v], .int .i64 c] := by
  unfold redV
  split
  · exact ⟨_, _, _, rfl⟩
  · exact ⟨_, _, _, rfl⟩

end Go.Proofs.Ytoenimkgagndnaa
namespace Go.Proofs.Ytoenimkgagndnaa
set_option linter.unusedVariables false
set_option linter.unusedSimpArgs false
open Go.RowKit Go.Lib

end Go.Proofs.Ytoenimkgagndnaa
namespace Go.Proofs.Ytoenimkgagndnaa
set_option linter.unusedVariables false
set_option linter.unusedSimpArgs false
open Go.RowKit Go.Lib

def prodL (xs : List Int) : Int := xs.foldl (· * ·) 1
theorem prodL_take {xs : List Int} {k : Nat} (h : k < xs.length) : prodL (xs.take (k + 1)) = prodL (xs.take k) * xs.getD k 0 := by
  unfold prodL
  rw [List.take_succ_eq_append_getElem h, List.foldl_append]
  simp [h]
theorem pow200 (k : Nat) (h : k ≤ 6) : (200 : Int) ^ k ≤ 64000000000000 ∧ (1 : Int) ≤ 200 ^ k := by
  rcases (show k = 0 ∨ k = 1 ∨ k = 2 ∨ k = 3 ∨ k = 4 ∨ k = 5 ∨ k = 6 by omega) with rfl | rfl | rfl | rfl | rfl | rfl | rfl <;> decide
def inT (x : Int) : Prop := 1 ≤ x ∧ x ≤ 200
instance (x : Int) : Decidable (inT x) := by unfold inT; infer_instance
theorem prodL_bd {xs : List Int} : ∀ {k : Nat}, k ≤ xs.length → (∀ i, i < k → inT (xs.getD i 0)) → 1 ≤ prodL (xs.take k) ∧ prodL (xs.take k) ≤ 200 ^ k
  | 0, _, _ => by simp [prodL]
  | k + 1, h, hi => by
    obtain ⟨h1, h2⟩ := prodL_bd (k := k) (by omega) (fun i hk => hi i (by omega))
    obtain ⟨h3, h4⟩ := hi k (by omega)
    rw [prodL_take (by omega), Int.pow_succ]
    have a := Int.mul_le_mul h1 h3 (by omega) (by omega)
    have b := Int.mul_le_mul h2 h4 (by omega) (show (0 : Int) ≤ 200 ^ k by omega)
    omega
theorem all_getD {xs : List Int} : (∀ x ∈ xs, inT x) ↔ ∀ i, i < xs.length → inT (xs.getD i 0) := by
  constructor
  · intro h i hi
    have := h _ (List.getElem_mem hi)
    simpa [hi] using this
  · intro h x hx
    obtain ⟨i, hi, rfl⟩ := List.mem_iff_getElem.1 hx
    have := h i hi
    simpa [hi] using this

/-- As many wheels as pinions, at most so many, and teeth in their range. -/
def okT (most : Int) (xs ys : List Int) : Prop := (1 ≤ xs.length ∧ (xs.length : Int) ≤ most) ∧ ys.length = xs.length ∧ (∀ x ∈ xs, inT x) ∧ ∀ y ∈ ys, inT y
instance (most : Int) (xs ys : List Int) : Decidable (okT most xs ys) := by unfold okT; infer_instance
/-- What Ratio returns. -/
def ratV (xs ys : List Int) : Value := if okT 6 xs ys then redV false (prodL xs).natAbs (prodL ys).natAbs else .tuple #[.agg #[.int .i64 0, .int .i64 0], .int .i64 1]

end Go.Proofs.Ytoenimkgagndnaa
namespace Go.Proofs.Ytoenimkgagndnaa
set_option linter.unusedVariables false
set_option linter.unusedSimpArgs false
open Go.RowKit Go.Lib

def okB (most : Int) (xs ys : List Int) : Bool := decide (okT most xs ys)

set_option maxHeartbeats 2000000 in
set_option maxRecDepth 100000 in
theorem rtrain_loop (g o q p n c e : Nat) (most : Int) (xs ys : List Int) (w : World) (hxl : Hid (xs.length = n)) (hyl : Hid (ys.length = n)) (n1 : 1 ≤ n) (n6 : (n : Int) ≤ most) (nn : n ≤ 4611686018427387904) (hc : n ≤ c) (he : n ≤ e)
    (HX : Hid (∀ i, i < n → w.cell? ⟨g, o + i, none⟩ = some (.int .i64 (xs.getD i 0)))) (HY : Hid (∀ i, i < n → w.cell? ⟨q, p + i, none⟩ = some (.int .i64 (ys.getD i 0)))) :
    Calls Try.prog 35 #[.agg #[.slice (some ⟨g, o, none⟩) n c, .slice (some ⟨q, p, none⟩) n e], .int .i64 most] w fun v w' => v = .returned (.bool (okB most xs ys)) ∧ Gro w w' := by
  have hgw := World.block_lt_of_cell? _ _ (HX.out 0 (by omega))
  have hqw := World.block_lt_of_cell? _ _ (HY.out 0 (by omega))
  simp only at hgw hqw
  have t0 : ((n : Int) != (n : Int)) = false := by simp
  have n1' : (1 : Int) ≤ (n : Int) := by omega
  go_enter Try.func35, Try.ntmps35
  go_wp2_with fail
  go_loop [5] (fun u => ∃ k : Nat, k ≤ n ∧ u = .int .i64 k ∧ Hid ((∀ i, i < k → inT (xs.getD i 0)) ∧ ∀ i, i < k → inT (ys.getD i 0))) (fun u => n - (intOf u).toNat)
  case atStart => exact ⟨0, Nat.zero_le _, rfl, ⟨fun i h => by omega, fun i h => by omega⟩⟩
  case round =>
    obtain ⟨k, hk, rfl, hI⟩ := hrel
    by_cases hlt : k < n
    · have c1 : w.cell? ⟨g, o + k, none⟩ = some (.int .i64 (xs.getD k 0)) := HX.out k hlt
      have c2 : w.cell? ⟨q, p + k, none⟩ = some (.int .i64 (ys.getD k 0)) := HY.out k hlt
      have k0 : (0 : Int) ≤ (k : Int) := by omega
      have kn : (k : Int) < (n : Int) := by omega
      by_cases hx : inT (xs.getD k 0)
      · by_cases hy : inT (ys.getD k 0)
        · have hI2 : Hid ((∀ i, i < k + 1 → inT (xs.getD i 0)) ∧ ∀ i, i < k + 1 → inT (ys.getD i 0)) := by
            refine ⟨fun i hi => ?_, fun i hi => ?_⟩
            · rcases (show i < k ∨ i = k by omega) with h | h
              · exact hI.out.1 i h
              · rw [h]; exact hx
            · rcases (show i < k ∨ i = k by omega) with h | h
              · exact hI.out.2 i h
              · rw [h]; exact hy
          unfold inT at hx hy
          obtain ⟨x1, x2⟩ := hx
          obtain ⟨y1, y2⟩ := hy
          generalize xs.getD k 0 = x at *
          generalize ys.getD k 0 = y at *
          clear hI
          go_wp2_with fail
          go_round
          case rel => exact ⟨k + 1, by omega, by go_num, hI2⟩
          case measure => simp [intOf]; omega
        · have HV : Hid (false = okB most xs ys) := by
            refine (decide_eq_false fun h => hy ?_).symm
            exact all_getD.1 h.2.2.2 k (by have := hyl.out; omega)
          unfold inT at hx hy
          obtain ⟨x1, x2⟩ := hx
          generalize xs.getD k 0 = x at *
          generalize ys.getD k 0 = y at *
          clear hI
          by_cases y1 : y < 1
          · clear hy
            go_wp2_with fail
            go_ret
            exact ⟨ret_bool HV.out, by (with_reducible repeat (first | exact gro_refl _ | refine gro_alloc ?_ _ | refine gro_drew ?_ | refine gro_drewN ?_ _ | (refine gro_set ?_ ?_ _; (focus first | omega | (dsimp only; omega)))))⟩
          · have y2 : 200 < y := by omega
            have y3 : 1 ≤ y := by omega
            clear hy
            go_wp2_with fail
            go_ret
            exact ⟨ret_bool HV.out, by (with_reducible repeat (first | exact gro_refl _ | refine gro_alloc ?_ _ | refine gro_drew ?_ | refine gro_drewN ?_ _ | (refine gro_set ?_ ?_ _; (focus first | omega | (dsimp only; omega)))))⟩
      · have HV : Hid (false = okB most xs ys) := by
          refine (decide_eq_false fun h => hx ?_).symm
          exact all_getD.1 h.2.2.1 k (by have := hxl.out; omega)
        unfold inT at hx
        generalize xs.getD k 0 = x at *
        generalize ys.getD k 0 = y at *
        clear hI
        by_cases x1 : x < 1
        · clear hx
          go_wp2_with fail
          go_ret
          exact ⟨ret_bool HV.out, by (with_reducible repeat (first | exact gro_refl _ | refine gro_alloc ?_ _ | refine gro_drew ?_ | refine gro_drewN ?_ _ | (refine gro_set ?_ ?_ _; (focus first | omega | (dsimp only; omega)))))⟩
        · have x2 : 200 < x := by omega
          have x3 : 1 ≤ x := by omega
          clear hx
          go_wp2_with fail
          go_ret
          exact ⟨ret_bool HV.out, by (with_reducible repeat (first | exact gro_refl _ | refine gro_alloc ?_ _ | refine gro_drew ?_ | refine gro_drewN ?_ _ | (refine gro_set ?_ ?_ _; (focus first | omega | (dsimp only; omega)))))⟩
    · obtain rfl : k = n := by omega
      have HV : Hid (true = okB most xs ys) := by
        refine (decide_eq_true ?_).symm
        refine ⟨⟨by have := hxl.out; omega, by have := hxl.out; omega⟩, by have := hxl.out; have := hyl.out; omega, ?_, ?_⟩
        · exact all_getD.2 fun i hi => hI.out.1 i (by have := hxl.out; omega)
        · exact all_getD.2 fun i hi => hI.out.2 i (by have := hyl.out; omega)
      clear hI
      go_wp2_with fail
      go_ret
      exact ⟨ret_bool HV.out, by (with_reducible repeat (first | exact gro_refl _ | refine gro_alloc ?_ _ | refine gro_drew ?_ | refine gro_drewN ?_ _ | (refine gro_set ?_ ?_ _; (focus first | omega | (dsimp only; omega)))))⟩

set_option maxHeartbeats 1000000 in
theorem rtrain_any (a b : Option Addr) (n c m e : Nat) (most : Int) (xs ys : List Int) (w : World) (hx : Rd w (.slice a n c) xs) (hy : Rd w (.slice b m e) ys) (hn : n ≤ 4611686018427387904) (hm : m ≤ 4611686018427387904) :
    Calls Try.prog 35 #[.agg #[.slice a n c, .slice b m e], .int .i64 most] w fun v w' => v = .returned (.bool (okB most xs ys)) ∧ Gro w w' := by
  obtain ⟨a', c', ha, hxc, hx⟩ := hx
  simp only [Value.slice.injEq] at ha
  obtain ⟨rfl, hxl, rfl⟩ := ha
  obtain ⟨b', e', hb, hyc, hy⟩ := hy
  simp only [Value.slice.injEq] at hb
  obtain ⟨rfl, hyl, rfl⟩ := hb
  by_cases h1 : n < 1
  · have HV := Lib.hid (show false = okB most xs ys from (decide_eq_false fun h => by have := h.1.1; omega).symm)
    have h2 : (n : Int) < 1 := by omega
    clear hx hy hxl hyl hxc hyc
    go_enter Try.func35, Try.ntmps35
    go_wp2_with fail
    go_ret
    exact ⟨ret_bool HV.out, by (with_reducible repeat (first | exact gro_refl _ | refine gro_alloc ?_ _ | refine gro_drew ?_ | refine gro_drewN ?_ _ | (refine gro_set ?_ ?_ _; (focus first | omega | (dsimp only; omega)))))⟩
  · have h1' : (1 : Int) ≤ (n : Int) := by omega
    by_cases h2 : most < (n : Int)
    · have HV := Lib.hid (show false = okB most xs ys from (decide_eq_false fun h => by have := h.1.2; omega).symm)
      clear hx hy hxl hyl hxc hyc
      go_enter Try.func35, Try.ntmps35
      go_wp2_with fail
      go_ret
      exact ⟨ret_bool HV.out, by (with_reducible repeat (first | exact gro_refl _ | refine gro_alloc ?_ _ | refine gro_drew ?_ | refine gro_drewN ?_ _ | (refine gro_set ?_ ?_ _; (focus first | omega | (dsimp only; omega)))))⟩
    · have h2' : (n : Int) ≤ most := by omega
      by_cases h3 : m = n
      · subst h3
        rcases hx with rfl | ⟨g, o, rfl, hx⟩
        · simp at hxl; omega
        · rcases hy with rfl | ⟨q, p, rfl, hy⟩
          · simp at hyl; omega
          · exact rtrain_loop g o q p m c e most xs ys w hxl.symm hyl.symm (by omega) h2' (by omega) (by omega) (by omega) (fun i hi => hx i (by omega)) (fun i hi => hy i (by omega))
      · have HV := Lib.hid (show false = okB most xs ys from (decide_eq_false fun h => by have := h.2.1; omega).symm)
        have t0 : ((m : Int) != (n : Int)) = true := by simp; omega
        clear hx hy hxl hyl hxc hyc h3
        go_enter Try.func35, Try.ntmps35
        go_wp2_with fail
        go_ret
        exact ⟨ret_bool HV.out, by (with_reducible repeat (first | exact gro_refl _ | refine gro_alloc ?_ _ | refine gro_drew ?_ | refine gro_drewN ?_ _ | (refine gro_set ?_ ?_ _; (focus first | omega | (dsimp only; omega)))))⟩
end Go.Proofs.Ytoenimkgagndnaa
namespace Go.Proofs.Ytoenimkgagndnaa
set_option linter.unusedVariables false
set_option linter.unusedSimpArgs false
open Go.RowKit Go.Lib

def sumL (xs : List Int) : Int := xs.foldl (· + ·) 0
theorem sumL_take {xs : List Int} {k : Nat} (h : k < xs.length) : sumL (xs.take (k + 1)) = sumL (xs.take k) + xs.getD k 0 := by
  unfold sumL
  rw [List.take_succ_eq_append_getElem h, List.foldl_append]
  simp [h]
theorem sumL_bd {xs : List Int} : ∀ {k : Nat}, k ≤ xs.length → (∀ i, i < k → inT (xs.getD i 0)) → 0 ≤ sumL (xs.take k) ∧ sumL (xs.take k) ≤ 200 * k
  | 0, _, _ => by simp [sumL]
  | k + 1, hk, h => by
    rw [sumL_take (by omega)]
    have h1 := sumL_bd (xs := xs) (k := k) (by omega) (fun i hi => h i (by omega))
    have h2 := h k (by omega)
    unfold inT at h2
    omega
theorem rdl_len {W : World} {a : Option Addr} {n c : Nat} {xs : List Int} (h : Rd W (.slice a n c) xs) : xs.length = n ∧ n ≤ c := by
  obtain ⟨a', c', he, hc, _⟩ := h
  simp only [Value.slice.injEq] at he
  obtain ⟨_, rfl, rfl⟩ := he
  exact ⟨rfl, hc⟩
theorem rdl_at {W : World} {a : Option Addr} {n c : Nat} {xs : List Int} (h : Rd W (.slice a n c) xs) {i : Nat} (hi : i < n) : ∃ g o, a = some ⟨g, o, none⟩ ∧ W.cell? ⟨g, o + i, none⟩ = some (.int .i64 (xs.getD i 0)) := by
  obtain ⟨a', c', he, hc, hr⟩ := h
  simp only [Value.slice.injEq] at he
  obtain ⟨rfl, rfl, rfl⟩ := he
  rcases hr with rfl | ⟨g, o, rfl, hX⟩
  · simp at hi
  · exact ⟨g, o, rfl, hX i hi⟩

set_option maxHeartbeats 2000000 in
set_option maxRecDepth 100000 in
theorem sum_any (a : Option Addr) (n c : Nat) (xs : List Int) (w : World) (hx : Rd w (.slice a n c) xs) (hn : n ≤ 1000) (hX : ∀ x ∈ xs, inT x) :
    Calls Try.prog 86 #[.slice a n c] w fun v w' => v = .returned (.int .i64 (sumL xs)) ∧ Below w.heap.size w w' := by
  obtain ⟨xl, hxc⟩ := rdl_len hx
  have HX := Lib.hid hx
  have HXL := Lib.hid xl
  have IX : Hid (∀ i, i < n → inT (xs.getD i 0)) := by rw [← xl]; exact all_getD.1 hX
  have BD : Hid (∀ k, k ≤ n → 0 ≤ sumL (xs.take k) ∧ sumL (xs.take k) ≤ 200 * k) := fun k hk => sumL_bd (by omega) (fun i hi => IX.out i (by omega))
  have HT : Hid (xs.take n = xs) := List.take_of_length_le (by omega)
  have hnc : (n : Int) ≤ (c : Int) := by omega
  clear hx hX xl
  go_enter Try.func86, Try.ntmps86
  go_wp2_with fail
  go_loopg [3, 4] n (fun gh r u wr => ∃ k : Nat, k ≤ n ∧ n - k ≤ gh ∧ r = .int .i64 (sumL (xs.take k)) ∧ u = .int .i64 k ∧ wr = w)
  case atStart => exact ⟨0, Nat.zero_le _, by omega, by simp [sumL], rfl, rfl⟩
  case round =>
    obtain ⟨k, hk, hgh, rfl, rfl, rfl⟩ := hrel
    by_cases h : k < n
    · have h' : (k : Int) < (n : Int) := by omega
      obtain ⟨g, o, rfl, c1⟩ := rdl_at HX.out h
      have hxi := IX.out k h
      have b1 := BD.out k hk
      have PX : Hid (sumL (xs.take (k + 1)) = sumL (xs.take k) + xs.getD k 0) := sumL_take (by rw [HXL.out]; exact h)
      unfold inT at hxi
      generalize sumL (xs.take k) = S at *
      generalize xs.getD k 0 = x at *
      clear HX
      go_wp2_with fail
      go_roundg (n - (k + 1))
      case measure => omega
      case rel => exact ⟨k + 1, by omega, by omega, by rw [PX.out], by go_num, rfl⟩
    · obtain rfl : k = n := by omega
      rw [HT.out]
      have h' : ¬ (k : Int) < (k : Int) := by omega
      go_wp2_with fail
      go_ret
      exact ⟨rfl, Below.refl _ _⟩

/-- How two lists compare: nothing differs as far as both go, or the first difference. -/
def FirstR (n m : Nat) (xs ys : List Int) (r : Int) : Prop :=
  (r = 0 ∧ ∀ i, i < n → i < m → xs.getD i 0 = ys.getD i 0) ∨ ∃ k, k < n ∧ k < m ∧ (∀ i, i < k → xs.getD i 0 = ys.getD i 0) ∧ xs.getD k 0 ≠ ys.getD k 0 ∧ r = xs.getD k 0 - ys.getD k 0

set_option maxHeartbeats 2000000 in
set_option maxRecDepth 100000 in
theorem first_any (a b : Option Addr) (n c m e : Nat) (xs ys : List Int) (w : World) (hx : Rd w (.slice a n c) xs) (hy : Rd w (.slice b m e) ys) (hn : n ≤ 1000) (hm : m ≤ 1000) (hX : ∀ x ∈ xs, inT x) (hY : ∀ y ∈ ys, inT y) :
    Calls Try.prog 87 #[.slice a n c, .slice b m e] w fun v w' => ∃ r : Int, v = .returned (.int .i64 r) ∧ Hid (FirstR n m xs ys r) ∧ Below w.heap.size w w' := by
  obtain ⟨xl, hxc⟩ := rdl_len hx
  obtain ⟨yl, hyc⟩ := rdl_len hy
  have HX := Lib.hid hx
  have HY := Lib.hid hy
  have IX : Hid (∀ i, i < n → inT (xs.getD i 0)) := by rw [← xl]; exact all_getD.1 hX
  have IY : Hid (∀ i, i < m → inT (ys.getD i 0)) := by rw [← yl]; exact all_getD.1 hY
  have hnc : (n : Int) ≤ (c : Int) := by omega
  have hme : (m : Int) ≤ (e : Int) := by omega
  clear hx hX xl hy hY yl
  go_enter Try.func87, Try.ntmps87
  go_wp2_with fail
  go_loopg [5] n (fun gh u wr => ∃ k j : Nat, k ≤ n ∧ k ≤ m ∧ n - k ≤ gh ∧ u = .int .i64 k ∧ Hid (∀ i, i < k → xs.getD i 0 = ys.getD i 0) ∧ wr = w.drewN j)
  case atStart => exact ⟨0, 0, Nat.zero_le _, Nat.zero_le _, by omega, rfl, fun i hi => absurd hi (by omega), rfl⟩
  case round =>
    obtain ⟨k, j, hkn, hkm, hgh, rfl, hE, rfl⟩ := hrel
    by_cases h : k < n
    · have h' : (k : Int) < (n : Int) := by omega
      by_cases h2 : k < m
      · have h2' : (k : Int) < (m : Int) := by omega
        obtain ⟨g, o, rfl, c1⟩ := rdl_at HX.out h
        obtain ⟨g2, o2, rfl, c2⟩ := rdl_at HY.out h2
        have hxi := IX.out k h
        have hyi := IY.out k h2
        unfold inT at hxi hyi
        by_cases hxy : xs.getD k 0 = ys.getD k 0
        · have hN : Hid (∀ i, i < k + 1 → xs.getD i 0 = ys.getD i 0) := fun i hi => by
            rcases (show i < k ∨ i = k by omega) with h | h
            · exact hE.out i h
            · rw [h]; exact hxy
          rw [hxy] at c1 hxi
          clear hxy hE HX HY
          generalize ys.getD k 0 = y at *
          go_wp2_with fail
          go_quiet (fail)
          go_wp2_with fail
          go_roundg (n - (k + 1))
          case measure => omega
          case rel => exact ⟨k + 1, _, by omega, by omega, by omega, by go_num, hN, by first | rfl | (rw [World.drewN_drewN]; done) | (rw [World.drewN_drewN, World.drewN_drewN])⟩
        · have HF : Hid (FirstR n m xs ys (xs.getD k 0 - ys.getD k 0)) := .inr ⟨k, h, h2, hE.out, hxy, rfl⟩
          clear hE HX HY
          generalize xs.getD k 0 = x at *
          generalize ys.getD k 0 = y at *
          have t1 : (x != y) = true := by simpa using hxy
          clear hxy
          go_wp2_with fail
          go_quiet (fail)
          go_wp2_with fail
          go_quiet (fail)
          go_wp2_with fail
          go_ret
          exact ⟨_, rfl, HF, by (with_reducible repeat (first | exact bR | refine bA ?_ | refine bD ?_ | refine bN ?_ | (refine bS ?_ ?_; (· dsimp only; omega))))⟩
      · have h2' : ¬ (k : Int) < (m : Int) := by omega
        have HF : Hid (FirstR n m xs ys 0) := .inl ⟨rfl, fun i _ hi => hE.out i (by omega)⟩
        clear hE HX HY
        go_wp2_with fail
        go_ret
        exact ⟨_, rfl, HF, by (with_reducible repeat (first | exact bR | refine bA ?_ | refine bD ?_ | refine bN ?_ | (refine bS ?_ ?_; (· dsimp only; omega))))⟩
    · have h' : ¬ (k : Int) < (n : Int) := by omega
      have HF : Hid (FirstR n m xs ys 0) := .inl ⟨rfl, fun i hi _ => hE.out i (by omega)⟩
      clear hE HX HY
      go_wp2_with fail
      go_ret
      exact ⟨_, rfl, HF, by (with_reducible repeat (first | exact bR | refine bA ?_ | refine bD ?_ | refine bN ?_ | (refine bS ?_ ?_; (· dsimp only; omega))))⟩

/-- The first difference of two lists, 0 if there is none. -/
def firstF : List Int → List Int → Int
  | x :: xs, y :: ys => if x = y then firstF xs ys else x - y
  | _, _ => 0
theorem firstR_eq : ∀ (xs ys : List Int) (r : Int), FirstR xs.length ys.length xs ys r → r = firstF xs ys
  | [], ys, r, h => by
    rcases h with ⟨h, _⟩ | ⟨k, h, _⟩
    · simpa [firstF] using h
    · simp at h
  | x :: xs, [], r, h => by
    rcases h with ⟨h, _⟩ | ⟨k, _, h, _⟩
    · simpa [firstF] using h
    · simp at h
  | x :: xs, y :: ys, r, h => by
    unfold firstF
    rcases h with ⟨h, hall⟩ | ⟨k, h1, h2, hall, hne, hr⟩
    · have h0 := hall 0 (by simp) (by simp)
      simp only [List.getD_cons_zero] at h0
      rw [if_pos h0]
      refine firstR_eq xs ys r (.inl ⟨h, fun i hi hi' => ?_⟩)
      have := hall (i + 1) (by simpa using hi) (by simpa using hi')
      simpa using this
    · cases k with
      | zero =>
        simp only [List.getD_cons_zero] at hne hr
        rw [if_neg hne]
        exact hr
      | succ k =>
        have h0 := hall 0 (by omega)
        simp only [List.getD_cons_zero] at h0
        rw [if_pos h0]
        refine firstR_eq xs ys r (.inr ⟨k, by simpa using h1, by simpa using h2, fun i hi => ?_, by simpa using hne, by simpa using hr⟩)
        have := hall (i + 1) (by omega)
        simpa using this
theorem firstF_any (a b : Option Addr) (n c m e : Nat) (xs ys : List Int) (w : World) (hx : Rd w (.slice a n c) xs) (hy : Rd w (.slice b m e) ys) (hn : n ≤ 1000) (hm : m ≤ 1000) (hX : ∀ x ∈ xs, inT x) (hY : ∀ y ∈ ys, inT y) :
    Calls Try.prog 87 #[.slice a n c, .slice b m e] w fun v w' => v = .returned (.int .i64 (firstF xs ys)) ∧ Below w.heap.size w w' := by
  have xl := (rdl_len hx).1
  have yl := (rdl_len hy).1
  refine (first_any a b n c m e xs ys w hx hy hn hm hX hY).mono ?_
  rintro v w' ⟨r, rfl, hr, hb⟩
  have h := hr.out
  rw [← xl, ← yl] at h
  rw [firstR_eq xs ys r h]
  exact ⟨rfl, hb⟩
end Go.Proofs.Ytoenimkgagndnaa
