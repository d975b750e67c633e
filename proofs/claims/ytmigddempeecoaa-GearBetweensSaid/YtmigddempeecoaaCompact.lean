/- slices.CompactFunc at sides, whatever the length. -/
import Derived.Test.YtmigddempeecoaaRow
import Derived.StillTailTactics
import Derived.Deep.LoopGhost
namespace Go.Proofs.Ytmigddempeecoaa
set_option linter.unusedVariables false
set_option linter.unusedSimpArgs false
open Go.RowKit Go.Shelf Go.Lib Go.Sort

theorem still_tail {P : Program} {id : Nat} {Q : Exit → Act → World → Prop} {a : Act} {w : World} {l : List Oper} (n : Nat) (hm : P.follows .mixedOrders = true) (hB : Region.lexTailB .any l.toArray n = true)
    (h : wpStill P l.toArray w.drew (fun a' => wpList P l.toArray Q (l.drop n) a' w.drew) (l.take n) a) : (Code.region id l.toArray true).wp P Q a w := wp_region_still_tail n hm hB h

theorem below_grow (w : World) (q : Nat) (os : Array Obj) : Below w.heap.size w (grow (w.drewN q) os) :=
  ⟨rfl, rfl, rfl, by simp [grow], fun k hk => heap_grow_old (w.drewN q) os hk⟩

theorem bl_at {g : Nat} {w wr w1 : World} (h : Below g w wr) (hg : g < wr.heap.size) (hb : Below wr.heap.size wr.drew w1) : Below g w w1 := h.drew.trans (hb.mono (Nat.le_of_lt hg))
theorem eqS (r : Bool) (a b c p s a' b' c' p' s' : Int) (hr : (p == p') = r) (w : World) :
    Calls Try.prog 124 #[.agg #[.int .i64 a, .int .i64 b, .int .i64 c, .int .i64 p, .int .i64 s], .agg #[.int .i64 a', .int .i64 b', .int .i64 c', .int .i64 p', .int .i64 s']] w fun e w' => e = .returned (.bool r) ∧ Below w.heap.size w w' :=
  (eqSides_any a b c p s a' b' c' p' s' w).mono fun _ _ ⟨he, q, os, hw⟩ => ⟨by rw [he, hr], by rw [hw]; exact below_grow w q os⟩

/-- What CompactFunc leaves. -/
def Cmpd (g cap : Nat) (d : Array Side) (w : World) (e : Ending) (w' : World) : Prop :=
  e = .returned (.slice (some ⟨g, 0, none⟩) (cmpL d d.size).length cap) ∧ HoldsK Side.enc 5 w' g 0 (cmpL d d.size).toArray ∧ Below g w w'

theorem cmpd_none {g cap : Nat} {d : Array Side} {w w' : World} (h : ∀ j, j < d.size → keepAt d j = true) (hb : Below g w w') (hH : HoldsK Side.enc 5 w' g 0 d) : Cmpd g cap d w (.returned (.slice (some ⟨g, 0, none⟩) d.size cap)) w' := by
  have e := cmpL_none h
  have el : (cmpL d d.size).length = d.size := by
    have := congrArg Array.size e
    simpa using this
  exact ⟨by rw [el], by rw [e]; exact hH, hb⟩

set_option maxHeartbeats 4000000 in
set_option maxRecDepth 100000 in
theorem compact_any (g cap : Nat) (d : Array Side) (w : World) (hH : HoldsK Side.enc 5 w g 0 d) (hg : g < w.heap.size) (hsz : d.size ≤ 1048576) (hcap : d.size ≤ cap) (hcap2 : cap ≤ maxLen) :
    Calls Try.prog 123 #[.slice (some ⟨g, 0, none⟩) d.size cap, .func (.func 124) #[] #[]] w (Cmpd g cap d w) := by
  unfold maxLen at hcap2
  by_cases h2 : d.size < 2
  · have E := Lib.hid (cmpd_none (cap := cap) (fun j hj => by unfold keepAt; simp; omega) (Below.refl g w) hH)
    clear hH
    go_enter Try.func123, Try.ntmps123
    go_wp2
    go_ret
    exact E.out
  · have d2 : decide ((d.size : Int) < 2) = false := by simp; omega
    go_enter Try.func123, Try.ntmps123
    go_wp2
    go_loopg [5] d.size (fun gh s3 wr => ∃ k : Nat, 1 ≤ k ∧ k ≤ d.size ∧ d.size - k ≤ gh ∧ s3 = .int .i64 k ∧ Below g w wr ∧ g < wr.heap.size ∧ Hid (HoldsK Side.enc 5 wr g 0 d) ∧ Hid (∀ j, j < k → keepAt d j = true))
    case atStart => exact ⟨1, Nat.le_refl _, by omega, by omega, rfl, Below.refl _ _, hg, hH, fun j hj => by unfold keepAt; simp; omega⟩
    case round =>
      clear hH
      obtain ⟨k, hk1, hk, hgh, rfl, hB, hgl, hH, hK⟩ := hrel
      by_cases hlt : k < d.size
      · obtain ⟨⟨c0, c1, c2, c3, c4⟩, f0, f1, f2, f3, f4⟩ := cells5 hH.out hlt
        obtain ⟨⟨p0, p1, p2, p3, p4⟩, _⟩ := cells5 hH.out (show k - 1 < d.size by omega)
        generalize hx : d[k]! = x at c0 c1 c2 c3 c4
        generalize hy : d[k - 1]! = y at p0 p1 p2 p3 p4
        obtain ⟨a, b, c, p, s⟩ := x
        obtain ⟨a', b', c', p', s'⟩ := y
        simp only at c0 c1 c2 c3 c4 p0 p1 p2 p3 p4
        have hkk : keepAt d k = !(p == p') := by
          unfold keepAt
          rw [hx, hy]
          have : (k == 0) = false := by simp; omega
          rw [this, Bool.false_or]
        have KK := Lib.hid hkk
        clear hx hy hkk
        by_cases hdup : (p == p') = true
        · go_wp2_with fail
          have w1 : IntKind.i64.wrap ((k : Int) - 1) = (k : Int) - 1 := IntWalk.i64_in _ (by omega)
          have w2 : (0 : Int) ≤ (k : Int) - 1 := by omega
          have w5 : (1 : Int) ≤ (k : Int) := by omega
          have w3 : (k : Int) - 1 < (d.size : Int) := by omega
          have w4 : ((k : Int) - 1).toNat = k - 1 := by omega
          refine still_tail 10 (by kernel_rfl) (by kernel_rfl) ?_
          simp only [List.take_succ_cons, List.take_zero, List.drop_succ_cons, List.drop_zero]
          iterate 10 still_step
          refine wpStill_nil ?_
          clear w1 w2 w3 w4
          go_wp2_with fail
          refine (eqS true _ _ _ _ _ _ _ _ _ _ hdup _).mono ?_
          rintro e w1 ⟨rfl, hb1⟩
          have H1 : Hid (HoldsK Side.enc 5 w1 g 0 d) := holdsK_below hb1 hgl hH.out
          have B1 : Below g w w1 := bl_at hB hgl hb1
          have hg1 : g < w1.heap.size := by have := hb1.size; simp at this; omega
          have S1 : Hid (CInv d (k + 1) k d) := CInv.start hK.out (by rw [KK.out, hdup]; rfl)
          clear hb1 hB hH hK KK c0 c1 c2 c3 c4 p0 p1 p2 p3 p4 f0 f1 f2 f3 f4 hdup
          go_wp2_with fail
          go_loopg [5, 7] d.size (fun gh s5 s7 wr => ∃ (kk k2 : Nat) (dk : Array Side), s5 = .int .i64 kk ∧ s7 = .int .i64 k2 ∧ 1 ≤ k2 ∧ k + k2 ≤ d.size ∧ d.size - (k + k2) ≤ gh ∧ kk < k + k2 ∧ Below g w wr ∧ g < wr.heap.size ∧ Hid (HoldsK Side.enc 5 wr g 0 dk) ∧ Hid (CInv d (k + k2) kk dk))
          case atStart => exact ⟨k, 1, d, rfl, rfl, Nat.le_refl _, by omega, by omega, by omega, B1, hg1, H1, S1⟩
          case round =>
            clear B1 H1 S1
            obtain ⟨kk, k2, dk, rfl, rfl, hk21, hk2, hgh2, hkk, hB, hgl2, hH, hI⟩ := hrel
            have hds := hI.out.size
            by_cases hlt2 : k + k2 < d.size
            · have X1 := hI.out.high (k + k2) (by omega)
              have X2 := hI.out.high (k + k2 - 1) (by omega)
              obtain ⟨⟨c0, c1, c2, c3, c4⟩, _⟩ := cells5 hH.out (show k + k2 < dk.size by omega)
              obtain ⟨⟨p0, p1, p2, p3, p4⟩, _⟩ := cells5 hH.out (show k + k2 - 1 < dk.size by omega)
              rw [X1] at c0 c1 c2 c3 c4
              rw [X2] at p0 p1 p2 p3 p4
              clear X1 X2
              generalize hx : d[k + k2]! = x at c0 c1 c2 c3 c4
              generalize hy : d[k + k2 - 1]! = y at p0 p1 p2 p3 p4
              obtain ⟨a, b, c, p, s⟩ := x
              obtain ⟨a', b', c', p', s'⟩ := y
              simp only at c0 c1 c2 c3 c4 p0 p1 p2 p3 p4
              have hkk2 : keepAt d (k + k2) = !(p == p') := by
                unfold keepAt
                rw [hx, hy]
                have : (k + k2 == 0) = false := by simp; omega
                rw [this, Bool.false_or]
              have KK := Lib.hid hkk2
              have XX := Lib.hid hx
              clear hx hy hkk2
              rw [show (k + k2) * 5 = k * 5 + k2 * 5 by omega] at c0 c1 c2 c3 c4
              rw [show (k + k2 - 1) * 5 = k * 5 + (k2 - 1) * 5 by omega] at p0 p1 p2 p3 p4
              have dt : decide (k2 < d.size - k) = true := by simp; omega
              have dn : k2 < d.size - k := by omega
              have z1 : IntKind.i64.wrap ((k2 : Int) - 1) = (k2 : Int) - 1 := IntWalk.i64_in _ (by omega)
              have z2 : (0 : Int) ≤ (k2 : Int) - 1 := by omega
              have z5 : (1 : Int) ≤ (k2 : Int) := by omega
              have z3 : (k2 : Int) - 1 < ((d.size - k : Nat) : Int) := by omega
              have z4 : ((k2 : Int) - 1).toNat = k2 - 1 := by omega
              by_cases hdup2 : (p == p') = true
              · go_wp2_with fail
                refine still_tail 10 (by kernel_rfl) (by kernel_rfl) ?_
                simp only [List.take_succ_cons, List.take_zero, List.drop_succ_cons, List.drop_zero]
                iterate 10 still_step
                refine wpStill_nil ?_
                clear z1 z2 z3 z4
                go_wp2_with fail
                refine (eqS true _ _ _ _ _ _ _ _ _ _ hdup2 _).mono ?_
                rintro e w2 ⟨rfl, hb2⟩
                have H2 : Hid (HoldsK Side.enc 5 w2 g 0 dk) := holdsK_below hb2 hgl2 hH.out
                have B2 : Below g w w2 := bl_at hB hgl2 hb2
                have hg2 : g < w2.heap.size := by have := hb2.size; simp at this; omega
                have S2 : Hid (CInv d (k + (k2 + 1)) kk dk) := hI.out.skip (by rw [KK.out, hdup2]; rfl)
                clear hb2 hB hH hI KK XX c0 c1 c2 c3 c4 p0 p1 p2 p3 p4 hdup2
                go_wp2_with fail
                go_roundg (d.size - (k + (k2 + 1)))
                case measure => omega
                case rel => exact ⟨kk, k2 + 1, dk, rfl, by go_num, by omega, by omega, Nat.le_refl _, by omega, B2, hg2, H2, S2⟩
              · have hdf : (p == p') = false := by simpa using hdup2
                go_wp2_with fail
                refine still_tail 10 (by kernel_rfl) (by kernel_rfl) ?_
                simp only [List.take_succ_cons, List.take_zero, List.drop_succ_cons, List.drop_zero]
                iterate 10 still_step
                refine wpStill_nil ?_
                clear z1 z2 z3 z4
                go_wp2_with fail
                refine (eqS false _ _ _ _ _ _ _ _ _ _ hdf _).mono ?_
                rintro e w2 ⟨rfl, hb2⟩
                have H2 : Hid (HoldsK Side.enc 5 w2 g 0 dk) := holdsK_below hb2 hgl2 hH.out
                have B2 : Below g w w2 := bl_at hB hgl2 hb2
                have hg2 : g < w2.heap.size := by have := hb2.size; simp at this; omega
                have S2 : Hid (CInv d (k + (k2 + 1)) (kk + 1) (dk.setIfInBounds kk ⟨a, b, c, p, s⟩)) := by
                  have := hI.out.keep hlt2 (by rw [KK.out, hdf]; rfl)
                  rw [XX.out] at this
                  exact this
                replace c0 := kc_below hb2 c0
                replace c1 := kc_below hb2 c1
                replace c2 := kc_below hb2 c2
                replace c3 := kc_below hb2 c3
                replace c4 := kc_below hb2 c4
                obtain ⟨⟨q0, q1, q2, q3, q4⟩, f0, f1, f2, f3, f4⟩ := cells5 H2.out (show kk < dk.size by omega)
                clear hb2 hB hH hI KK XX p0 p1 p2 p3 p4 hdup2 hdf
                generalize dk[kk]! = old at q0 q1 q2 q3 q4
                have H3 : Hid (HoldsK Side.enc 5 (put5 w2 g kk ⟨a, b, c, p, s⟩) g 0 (dk.setIfInBounds kk ⟨a, b, c, p, s⟩)) := holdsK_put5 H2.out (by omega) _
                have B3 : Hid (Below g w (put5 w2 g kk ⟨a, b, c, p, s⟩)) := put5_below (Nat.le_refl _) B2 kk _
                have g3 : Hid (g < (put5 w2 g kk ⟨a, b, c, p, s⟩).heap.size) := by show g < _; rw [put5_size]; exact hg2
                clear H2 B2
                go_wp2_with fail
                go_roundg (d.size - (k + (k2 + 1)))
                case measure => omega
                case rel => exact ⟨kk + 1, k2 + 1, dk.setIfInBounds kk ⟨a, b, c, p, s⟩, by go_num, by go_num, by omega, by omega, Nat.le_refl _, by omega, B3.out, g3.out, H3, S2⟩
            · have hend : k + k2 = d.size := by omega
              have dt : decide (k2 < d.size - k) = false := by simp; omega
              have dn : ¬ k2 < d.size - k := by omega
              obtain ⟨vs, hcl⟩ : ∃ vs, ∀ ty, (Builtin.clear_ #[125] ty #[.slice (some ⟨g, kk * 5, none⟩) (d.size - kk) (cap - kk)]).run Try.prog wr = .ok (.tuple #[]) (wr.setCells g (kk * 5) vs) := by
                have hcell : ∀ j, j < (d.size - kk) * 5 → (wr.cell? ⟨g, kk * 5 + j, none⟩).isSome = true ∧ wr.frozen? ⟨g, kk * 5 + j, none⟩ = false := fun j hj => by
                  have := holdsK_at hH.out (show kk + j / 5 < dk.size by omega) (show j % 5 < 5 by omega)
                  rw [show (kk + j / 5) * 5 + j % 5 = kk * 5 + j by omega] at this
                  exact ⟨by rw [this.1]; rfl, this.2⟩
                obtain ⟨vs, h⟩ := run_clear5 (P := Try.prog) wr 125 102 0 Try.underlying125 (fun _ => by kernel_rfl) g (kk * 5) (d.size - kk) (cap - kk) (by omega) (fun j hj => (hcell j hj).1) (fun j hj => (hcell j hj).2)
                exact ⟨vs, fun ty => h⟩
              have hI2 := hI.out
              rw [hend] at hI2
              have H3 : Hid (HoldsK Side.enc 5 (wr.setCells g (kk * 5) vs) g 0 (cmpL d d.size).toArray) := by
                have := holdsK_pre hH.out (m := kk) (by omega) vs
                rw [hI2.done] at this
                exact this
              have E : Hid (Cmpd g cap d w (.returned (.slice (some ⟨g, 0, none⟩) kk cap)) (wr.setCells g (kk * 5) vs)) := ⟨by rw [hI2.len], H3.out, below_setCells g (Nat.le_refl _) _ _ hB⟩
              clear hI hI2 hH hB hend H3
              go_wp2
              go_ret
              exact E.out
        · have hdf : (p == p') = false := by simpa using hdup
          go_wp2_with fail
          have w1 : IntKind.i64.wrap ((k : Int) - 1) = (k : Int) - 1 := IntWalk.i64_in _ (by omega)
          have w2 : (0 : Int) ≤ (k : Int) - 1 := by omega
          have w5 : (1 : Int) ≤ (k : Int) := by omega
          have w3 : (k : Int) - 1 < (d.size : Int) := by omega
          have w4 : ((k : Int) - 1).toNat = k - 1 := by omega
          refine still_tail 10 (by kernel_rfl) (by kernel_rfl) ?_
          simp only [List.take_succ_cons, List.take_zero, List.drop_succ_cons, List.drop_zero]
          iterate 10 still_step
          refine wpStill_nil ?_
          clear w1 w2 w3 w4
          go_wp2_with fail
          refine (eqS false _ _ _ _ _ _ _ _ _ _ hdf _).mono ?_
          rintro e w1 ⟨rfl, hb1⟩
          have H1 : Hid (HoldsK Side.enc 5 w1 g 0 d) := holdsK_below hb1 hgl hH.out
          have B1 : Below g w w1 := bl_at hB hgl hb1
          have hg1 : g < w1.heap.size := by have := hb1.size; simp at this; omega
          have S1 : Hid (∀ j, j < k + 1 → keepAt d j = true) := fun j hj => by
            by_cases e : j = k
            · rw [e, KK.out, hdf]; rfl
            · exact hK.out j (by omega)
          clear hb1 hB hH hK KK c0 c1 c2 c3 c4 p0 p1 p2 p3 p4 f0 f1 f2 f3 f4 hdup hdf
          go_wp2_with fail
          go_roundg (d.size - (k + 1))
          case measure => omega
          case rel => exact ⟨k + 1, by omega, by omega, Nat.le_refl _, by go_num, B1, hg1, H1, S1⟩
      · have : k = d.size := by omega
        subst this
        have E := Lib.hid (cmpd_none (cap := cap) hK.out hB hH.out)
        clear hH hK
        go_wp2
        go_ret
        exact E.out
end Go.Proofs.Ytmigddempeecoaa
