/- Texts that gearBest_holds reaches: GcdZ, OverZ, LowZ, SmallZ. -/
import Derived.Test.YtoenimkgagndnaaBo
namespace Go.Proofs.Ytoenimkgagndnaa
set_option linter.unusedVariables false
set_option linter.unusedSimpArgs false
open Go.RowKit Go.Lib Go.Dig

/-- Digits that lie where they lay when the call began, or in memory of the call's own. -/
def Kept (p : Nat) (w : World) (a : Option Addr) (n c : Nat) (z : Int) (W : World) : Prop := (∀ W', Below w.heap.size w W' → Zat p W' false a n c z) ∨ Zat (w.heap.size + 3) W false a n c z
theorem Kept.call {p : Nat} {w W W1 : World} {a : Option Addr} {n c : Nat} {z : Int} (h : Kept p w a n c z W) (hb : Below W.heap.size W W1) : Kept p w a n c z W1 := h.imp_right fun h => h.below hb
theorem Kept.set {p : Nat} {w W : World} {a : Option Addr} {n c : Nat} {z : Int} (h : Kept p w a n c z W) {b o : Nat} (hb : b < w.heap.size + 3) (u : Value) : Kept p w a n c z (W.setCell ⟨b, o, none⟩ u) := h.imp_right fun h => h.set hb u
theorem Kept.zat {p : Nat} {w W : World} {a : Option Addr} {n c : Nat} {z : Int} (h : Kept p w a n c z W) (hb : Below w.heap.size w W) (hp : p ≤ w.heap.size) : Zat p W false a n c z := h.elim (fun h => h W hb) (fun h => h.mono (by omega))

theorem kept_drew {p : Nat} {w W : World} {a : Option Addr} {n c : Nat} {z : Int} (h : Kept p w a n c z W) : Kept p w a n c z W.drew := h.call (Below.refl _ _).drew
theorem kept_alloc {p : Nat} {w W : World} {a : Option Addr} {n c : Nat} {z : Int} (o : Obj) (h : Kept p w a n c z W) : Kept p w a n c z (W.alloc o) := h.call (bl_alloc (Below.refl _ _) o)
theorem kept_set {p : Nat} {w W : World} {a : Option Addr} {n c : Nat} {z : Int} {b o : Nat} {u : Value} (h : Kept p w a n c z W) (hb : b < w.heap.size + 3) : Kept p w a n c z (W.setCell ⟨b, o, none⟩ u) := h.set hb u
structure GcdB (w : World) (a b : Option Addr) (n c m e : Nat) (W : World) : Prop where
  b0 : W.cell? ⟨w.heap.size, 0, none⟩ = some (.bool false)
  b1 : W.cell? ⟨w.heap.size, 1, none⟩ = some (.slice a n c)
  b2 : W.cell? ⟨w.heap.size + 1, 0, none⟩ = some (.bool false)
  b3 : W.cell? ⟨w.heap.size + 1, 1, none⟩ = some (.slice b m e)
  b4 : W.cell? ⟨w.heap.size + 1 + 1, 0, none⟩ = some (.bool false)
  b5 : W.cell? ⟨w.heap.size + 1 + 1, 1, none⟩ = some (.slice none 0 0)
  f0 : W.frozen? ⟨w.heap.size, 0, none⟩ = false
  f1 : W.frozen? ⟨w.heap.size, 1, none⟩ = false
  f2 : W.frozen? ⟨w.heap.size + 1, 0, none⟩ = false
  f3 : W.frozen? ⟨w.heap.size + 1, 1, none⟩ = false
  f4 : W.frozen? ⟨w.heap.size + 1 + 1, 0, none⟩ = false
  f5 : W.frozen? ⟨w.heap.size + 1 + 1, 1, none⟩ = false
  below : Below w.heap.size w W
/-- What holds at the head of a round of Gcd. -/
def GcdR (p : Nat) (w : World) (a b : Option Addr) (n c m e : Nat) (x y : Nat) (g : Nat) (W : World) : Prop :=
  GcdB w a b n c m e W ∧ Kept p w a n c (x : Int) W ∧ Kept p w b m e (y : Int) W ∧ Nat.gcd x y = g

set_option maxHeartbeats 4000000 in
set_option maxRecDepth 100000 in
theorem gcdZ_any (p : Nat) (s t : Bool) (a b : Option Addr) (n c m e : Nat) (x y : Int) (w : World) (hx : Zat p w s a n c x) (hy : Zat p w t b m e y) (hp : p ≤ w.heap.size) (hn : n ≤ 9999) (hm : m ≤ 9999) :
    Calls Try.prog 59 #[.agg #[.bool s, .slice a n c], .agg #[.bool t, .slice b m e]] w fun v w' => ∃ s' a' n' c', v = .returned (.agg #[.bool s', .slice a' n' c']) ∧ Hid (Zat p w' s' a' n' c' (Nat.gcd x.natAbs y.natAbs : Nat)) ∧ Below w.heap.size w w' := by
  have HX : Hid (∀ W, Below w.heap.size w W → Zat p W false a n c (x.natAbs : Int)) := fun W hW => (hx.below hW).abs
  have HY : Hid (∀ W, Below w.heap.size w W → Zat p W false b m e (y.natAbs : Int)) := fun W hW => (hy.below hW).abs
  clear hx hy
  generalize x.natAbs = x0 at *
  generalize y.natAbs = y0 at *
  have HN1 := fun W => Lib.hid (absZ_any s a n c W)
  have HN2 := fun W => Lib.hid (absZ_any t b m e W)
  have HPP := Lib.hid hp
  go_enter Try.func59, Try.ntmps59
  go_wp2_with fail
  go_region_with (first
    | (go_at_call 92; ((with_reducible refine (HN1 _).out.mono ?_); rintro v w1 ⟨rfl, hk1⟩; have hb1 := hk1.below; have hz1 := hb1.size; (try simp only [sZ] at hz1); have ⟨r0, r1, r2, r3, r8, r9⟩ : w1.cell? ⟨w.heap.size, 0, none⟩ = some (.bool s) ∧ w1.cell? ⟨w.heap.size, 1, none⟩ = some (.slice a n c) ∧ w1.cell? ⟨w.heap.size + 1, 0, none⟩ = some (.bool t) ∧ w1.cell? ⟨w.heap.size + 1, 1, none⟩ = some (.slice b m e) ∧ w1.cell? ⟨w.heap.size + 1 + 1, 0, none⟩ = some (.bool false) ∧ w1.cell? ⟨w.heap.size + 1 + 1, 1, none⟩ = some (.slice none 0 0) := (by and_intros <;> (with_reducible repeat (first | exact r0 | exact r1 | exact r2 | exact r3 | exact r4 | exact r5 | exact r6 | exact r7 | exact r8 | exact r9 | exact r10 | exact r11 | refine kc_drew ?_ | refine kc_drewN _ ?_ | refine kc_below hb1 ?_ | refine kc_below hb2 ?_ | (refine kc_new ?_ ?_; (· first | rfl | simp only [sZ]); (· first | rfl | simp)) | (refine kc_set0 ?_ ?_; (· first | rfl | simp)) | exact ct_of (by assumption) | refine ct_drew ?_ | refine ct_drewN _ ?_ | refine ct_below hb1 ?_ | refine ct_below hb2 ?_ | (refine ct_new ?_ ?_; (· first | rfl | simp only [sZ]); (· first | rfl | simp)) | refine ct_set _ _ ?_ | refine ct_alloc _ ?_ | (refine kc_set ?_ ?_; (focus first | (intro hx; injection hx; omega) | (simp; done))) | refine kc_alloc _ ?_))); have ⟨r4, r5, r6, r7, r10, r11⟩ : w1.frozen? ⟨w.heap.size, 0, none⟩ = false ∧ w1.frozen? ⟨w.heap.size, 1, none⟩ = false ∧ w1.frozen? ⟨w.heap.size + 1, 0, none⟩ = false ∧ w1.frozen? ⟨w.heap.size + 1, 1, none⟩ = false ∧ w1.frozen? ⟨w.heap.size + 1 + 1, 0, none⟩ = false ∧ w1.frozen? ⟨w.heap.size + 1 + 1, 1, none⟩ = false := (by and_intros <;> (with_reducible repeat (first | exact r0 | exact r1 | exact r2 | exact r3 | exact r4 | exact r5 | exact r6 | exact r7 | exact r8 | exact r9 | exact r10 | exact r11 | refine kf_drew ?_ | refine kf_drewN _ ?_ | (refine kf_new ?_ _; (· first | rfl | simp only [sZ])) | refine kf_set _ _ ?_ | (refine kf_below hb1 ?_ ?_; (focus simp only [sZ]; omega)) | (refine kf_below hb2 ?_ ?_; (focus simp only [sZ]; omega)) | (refine kf_alloc _ ?_ ?_; (focus first | (simp only [sZ]; omega) | (dsimp only; omega))))))))
    | (go_at_call 92; ((with_reducible refine (HN2 _).out.mono ?_); rintro v w2 ⟨rfl, hk2⟩; have hb2 := hk2.below; have hz2 := hb2.size; (try simp only [sZ] at hz2); have ⟨r0, r1, r2, r3, r8, r9⟩ : w2.cell? ⟨w.heap.size, 0, none⟩ = some (.bool s) ∧ w2.cell? ⟨w.heap.size, 1, none⟩ = some (.slice a n c) ∧ w2.cell? ⟨w.heap.size + 1, 0, none⟩ = some (.bool t) ∧ w2.cell? ⟨w.heap.size + 1, 1, none⟩ = some (.slice b m e) ∧ w2.cell? ⟨w.heap.size + 1 + 1, 0, none⟩ = some (.bool false) ∧ w2.cell? ⟨w.heap.size + 1 + 1, 1, none⟩ = some (.slice none 0 0) := (by and_intros <;> (with_reducible repeat (first | exact r0 | exact r1 | exact r2 | exact r3 | exact r4 | exact r5 | exact r6 | exact r7 | exact r8 | exact r9 | exact r10 | exact r11 | refine kc_drew ?_ | refine kc_drewN _ ?_ | refine kc_below hb2 ?_ | refine kc_below hb1 ?_ | (refine kc_new ?_ ?_; (· first | rfl | simp only [sZ]); (· first | rfl | simp)) | (refine kc_set0 ?_ ?_; (· first | rfl | simp)) | exact ct_of (by assumption) | refine ct_drew ?_ | refine ct_drewN _ ?_ | refine ct_below hb2 ?_ | refine ct_below hb1 ?_ | (refine ct_new ?_ ?_; (· first | rfl | simp only [sZ]); (· first | rfl | simp)) | refine ct_set _ _ ?_ | refine ct_alloc _ ?_ | (refine kc_set ?_ ?_; (focus first | (intro hx; injection hx; omega) | (simp; done))) | refine kc_alloc _ ?_))); have ⟨r4, r5, r6, r7, r10, r11⟩ : w2.frozen? ⟨w.heap.size, 0, none⟩ = false ∧ w2.frozen? ⟨w.heap.size, 1, none⟩ = false ∧ w2.frozen? ⟨w.heap.size + 1, 0, none⟩ = false ∧ w2.frozen? ⟨w.heap.size + 1, 1, none⟩ = false ∧ w2.frozen? ⟨w.heap.size + 1 + 1, 0, none⟩ = false ∧ w2.frozen? ⟨w.heap.size + 1 + 1, 1, none⟩ = false := (by and_intros <;> (with_reducible repeat (first | exact r0 | exact r1 | exact r2 | exact r3 | exact r4 | exact r5 | exact r6 | exact r7 | exact r8 | exact r9 | exact r10 | exact r11 | refine kf_drew ?_ | refine kf_drewN _ ?_ | (refine kf_new ?_ _; (· first | rfl | simp only [sZ])) | refine kf_set _ _ ?_ | (refine kf_below hb2 ?_ ?_; (focus simp only [sZ]; omega)) | (refine kf_below hb1 ?_ ?_; (focus simp only [sZ]; omega)) | (refine kf_alloc _ ?_ ?_; (focus first | (simp only [sZ]; omega) | (dsimp only; omega)))))))))
  all_goals
    go_wp2_with fail
    go_loopg [] y0 (fun gh wr => ∃ (a1 : Option Addr) (n1 c1 : Nat) (b1 : Option Addr) (m1 e1 x1 y1 : Nat), n1 ≤ 9999 ∧ m1 ≤ 9999 ∧ y1 ≤ gh ∧ Hid (GcdR p w a1 b1 n1 c1 m1 e1 x1 y1 (Nat.gcd x0 y0) wr))
    case atStart =>
      refine ⟨a, n, c, b, m, e, x0, y0, hn, hm, Nat.le_refl _, ⟨⟨?_, ?_, ?_, ?_, ?_, ?_, ?_, ?_, ?_, ?_, ?_, ?_, ?_⟩, .inl HX.out, .inl HY.out, rfl⟩⟩
      · (with_reducible repeat (first | exact r0 | exact r1 | exact r2 | exact r3 | exact r8 | exact r9 | refine kc_drew ?_ | refine kc_drewN _ ?_ | (refine kc_new ?_ ?_; (· first | rfl | simp only [sZ]); (· first | rfl | simp)) | (refine kc_set0 ?_ ?_; (· first | rfl | simp)) | exact ct_of (by assumption) | refine ct_drew ?_ | refine ct_drewN _ ?_ | (refine ct_new ?_ ?_; (· first | rfl | simp only [sZ]); (· first | rfl | simp)) | refine ct_set _ _ ?_ | refine ct_alloc _ ?_ | (refine kc_set ?_ ?_; (focus first | (intro hx; injection hx; omega) | (simp; done))) | refine kc_alloc _ ?_))
      · (with_reducible repeat (first | exact r0 | exact r1 | exact r2 | exact r3 | exact r8 | exact r9 | refine kc_drew ?_ | refine kc_drewN _ ?_ | (refine kc_new ?_ ?_; (· first | rfl | simp only [sZ]); (· first | rfl | simp)) | (refine kc_set0 ?_ ?_; (· first | rfl | simp)) | exact ct_of (by assumption) | refine ct_drew ?_ | refine ct_drewN _ ?_ | (refine ct_new ?_ ?_; (· first | rfl | simp only [sZ]); (· first | rfl | simp)) | refine ct_set _ _ ?_ | refine ct_alloc _ ?_ | (refine kc_set ?_ ?_; (focus first | (intro hx; injection hx; omega) | (simp; done))) | refine kc_alloc _ ?_))
      · (with_reducible repeat (first | exact r0 | exact r1 | exact r2 | exact r3 | exact r8 | exact r9 | refine kc_drew ?_ | refine kc_drewN _ ?_ | (refine kc_new ?_ ?_; (· first | rfl | simp only [sZ]); (· first | rfl | simp)) | (refine kc_set0 ?_ ?_; (· first | rfl | simp)) | exact ct_of (by assumption) | refine ct_drew ?_ | refine ct_drewN _ ?_ | (refine ct_new ?_ ?_; (· first | rfl | simp only [sZ]); (· first | rfl | simp)) | refine ct_set _ _ ?_ | refine ct_alloc _ ?_ | (refine kc_set ?_ ?_; (focus first | (intro hx; injection hx; omega) | (simp; done))) | refine kc_alloc _ ?_))
      · (with_reducible repeat (first | exact r0 | exact r1 | exact r2 | exact r3 | exact r8 | exact r9 | refine kc_drew ?_ | refine kc_drewN _ ?_ | (refine kc_new ?_ ?_; (· first | rfl | simp only [sZ]); (· first | rfl | simp)) | (refine kc_set0 ?_ ?_; (· first | rfl | simp)) | exact ct_of (by assumption) | refine ct_drew ?_ | refine ct_drewN _ ?_ | (refine ct_new ?_ ?_; (· first | rfl | simp only [sZ]); (· first | rfl | simp)) | refine ct_set _ _ ?_ | refine ct_alloc _ ?_ | (refine kc_set ?_ ?_; (focus first | (intro hx; injection hx; omega) | (simp; done))) | refine kc_alloc _ ?_))
      · (with_reducible repeat (first | exact r0 | exact r1 | exact r2 | exact r3 | exact r8 | exact r9 | refine kc_drew ?_ | refine kc_drewN _ ?_ | (refine kc_new ?_ ?_; (· first | rfl | simp only [sZ]); (· first | rfl | simp)) | (refine kc_set0 ?_ ?_; (· first | rfl | simp)) | exact ct_of (by assumption) | refine ct_drew ?_ | refine ct_drewN _ ?_ | (refine ct_new ?_ ?_; (· first | rfl | simp only [sZ]); (· first | rfl | simp)) | refine ct_set _ _ ?_ | refine ct_alloc _ ?_ | (refine kc_set ?_ ?_; (focus first | (intro hx; injection hx; omega) | (simp; done))) | refine kc_alloc _ ?_))
      · (with_reducible repeat (first | exact r0 | exact r1 | exact r2 | exact r3 | exact r8 | exact r9 | refine kc_drew ?_ | refine kc_drewN _ ?_ | (refine kc_new ?_ ?_; (· first | rfl | simp only [sZ]); (· first | rfl | simp)) | (refine kc_set0 ?_ ?_; (· first | rfl | simp)) | exact ct_of (by assumption) | refine ct_drew ?_ | refine ct_drewN _ ?_ | (refine ct_new ?_ ?_; (· first | rfl | simp only [sZ]); (· first | rfl | simp)) | refine ct_set _ _ ?_ | refine ct_alloc _ ?_ | (refine kc_set ?_ ?_; (focus first | (intro hx; injection hx; omega) | (simp; done))) | refine kc_alloc _ ?_))
      · (with_reducible repeat (first | exact r4 | exact r5 | exact r6 | exact r7 | exact r10 | exact r11 | refine kf_drew ?_ | refine kf_drewN _ ?_ | (refine kf_new ?_ _; (· first | rfl | simp only [sZ])) | refine kf_set _ _ ?_ | (refine kf_alloc _ ?_ ?_; (focus first | (simp only [sZ]; omega) | (dsimp only; omega)))))
      · (with_reducible repeat (first | exact r4 | exact r5 | exact r6 | exact r7 | exact r10 | exact r11 | refine kf_drew ?_ | refine kf_drewN _ ?_ | (refine kf_new ?_ _; (· first | rfl | simp only [sZ])) | refine kf_set _ _ ?_ | (refine kf_alloc _ ?_ ?_; (focus first | (simp only [sZ]; omega) | (dsimp only; omega)))))
      · (with_reducible repeat (first | exact r4 | exact r5 | exact r6 | exact r7 | exact r10 | exact r11 | refine kf_drew ?_ | refine kf_drewN _ ?_ | (refine kf_new ?_ _; (· first | rfl | simp only [sZ])) | refine kf_set _ _ ?_ | (refine kf_alloc _ ?_ ?_; (focus first | (simp only [sZ]; omega) | (dsimp only; omega)))))
      · (with_reducible repeat (first | exact r4 | exact r5 | exact r6 | exact r7 | exact r10 | exact r11 | refine kf_drew ?_ | refine kf_drewN _ ?_ | (refine kf_new ?_ _; (· first | rfl | simp only [sZ])) | refine kf_set _ _ ?_ | (refine kf_alloc _ ?_ ?_; (focus first | (simp only [sZ]; omega) | (dsimp only; omega)))))
      · (with_reducible repeat (first | exact r4 | exact r5 | exact r6 | exact r7 | exact r10 | exact r11 | refine kf_drew ?_ | refine kf_drewN _ ?_ | (refine kf_new ?_ _; (· first | rfl | simp only [sZ])) | refine kf_set _ _ ?_ | (refine kf_alloc _ ?_ ?_; (focus first | (simp only [sZ]; omega) | (dsimp only; omega)))))
      · (with_reducible repeat (first | exact r4 | exact r5 | exact r6 | exact r7 | exact r10 | exact r11 | refine kf_drew ?_ | refine kf_drewN _ ?_ | (refine kf_new ?_ _; (· first | rfl | simp only [sZ])) | refine kf_set _ _ ?_ | (refine kf_alloc _ ?_ ?_; (focus first | (simp only [sZ]; omega) | (dsimp only; omega)))))
      · (with_reducible repeat (first | exact bR | refine bA ?_ | refine bD ?_ | refine bN ?_ | (refine bS ?_ ?_; (· dsimp only; omega)) | refine bl_call ?_ hb2 | refine bl_call ?_ hb1))
    case round =>
      clear HX HY HN1 HN2 hn hm
      obtain ⟨a1, n1, c1, b1, m1, e1, x1, y1, hn, hm, hgh, hI⟩ := hrel
      have hB := hI.out.1.below
      have r0 := hI.out.1.b0
      have r1 := hI.out.1.b1
      have r2 := hI.out.1.b2
      have r3 := hI.out.1.b3
      have r4 := hI.out.1.b4
      have r5 := hI.out.1.b5
      have r6 := hI.out.1.f0
      have r7 := hI.out.1.f1
      have r8 := hI.out.1.f2
      have r9 := hI.out.1.f3
      have r10 := hI.out.1.f4
      have r11 := hI.out.1.f5
      have hsz := World.block_lt_of_cell? _ _ r5
      simp only at hsz
      have HKX := Lib.hid hI.out.2.1
      have HKY := Lib.hid hI.out.2.2.1
      have HG := Lib.hid hI.out.2.2.2
      have HX1 := Lib.hid (HKX.out.zat hB HPP.out)
      have HY1 := Lib.hid (HKY.out.zat hB HPP.out)
      have hy0 := HY1.out.zero
      have HYL := Lib.hid HY1.out.lt
      clear hI
      by_cases h0 : y1 = 0
      · obtain rfl : m1 = 0 := hy0.2 (by omega)
        have HV : Hid (x1 = Nat.gcd x0 y0) := by
          have := HG.out
          rw [h0, Nat.gcd_zero_right] at this
          exact this
        have HF : Hid (Zat p ((wr.setCell ⟨w.heap.size + 1 + 1, 0, none⟩ (.bool false)).setCell ⟨w.heap.size + 1 + 1, 1, none⟩ (.slice a1 n1 c1)) false a1 n1 c1 (Nat.gcd x0 y0 : Nat)) := by
          rw [← HV.out]
          exact Kept.zat (kept_set (kept_set HKX.out (by omega)) (by omega)) (by (with_reducible repeat (first | exact hB | exact bR | refine bA ?_ | refine bD ?_ | refine bN ?_ | (refine bS ?_ ?_; (· dsimp only; omega))))) HPP.out
        clear hy0 h0
        go_wp2_with fail
        exact bodyPost_ret (v := .agg #[.bool false, .slice a1 n1 c1]) (by simp [results, Try.results59, go_sem, r4, r5, hsz, Nat.ne_of_lt hsz]) rfl
          ⟨false, a1, n1, c1, rfl, HF, by (with_reducible repeat (first | exact hB | exact bR | refine bA ?_ | refine bD ?_ | refine bN ?_ | (refine bS ?_ ?_; (· dsimp only; omega))))⟩
      · have hm0 : (0 : Int) < (m1 : Int) := by
          have : ¬ m1 = 0 := fun h => h0 (by have := hy0.1 h; omega)
          omega
        have hy1 : 1 ≤ y1 := by omega
        obtain ⟨rr, hrr⟩ : ∃ rr, rr = x1 % y1 := ⟨_, rfl⟩
        have HRL : Hid (rr < y1) := by rw [hrr]; exact Nat.mod_lt x1 hy1
        have HRE : Hid ((x1 : Int) % (y1 : Int) = (rr : Int)) := by rw [hrr]; rfl
        have HRG : Hid (Nat.gcd y1 rr = Nat.gcd x0 y0) := by rw [hrr, gcd_step]; exact HG.out
        clear hy0 h0 hrr
        go_wp2_with (go_at_call 93; refine (divZ_any false a1 b1 n1 c1 m1 e1 (x1 : Int) (y1 : Int) _ (HX1.out.below (by (with_reducible repeat (first | exact bR | refine bA ?_ | refine bD ?_ | refine bN ?_ | (refine bS ?_ ?_; (· dsimp only; omega)))))) (HY1.out.below (by (with_reducible repeat (first | exact bR | refine bA ?_ | refine bD ?_ | refine bN ?_ | (refine bS ?_ ?_; (· dsimp only; omega)))))) (by omega) (by omega) (by omega)).mono ?_; rintro v w3 ⟨s3, a3, n3, c3, t3, b3, m3, e3, rfl, H3, H4, hb3⟩; obtain rfl := H4.out.plus (Int.emod_nonneg _ (by omega)); have H4b : Hid (Zat (w.heap.size + 3) w3 false b3 m3 e3 (rr : Int)) := ((H4.out.mono (by (try simp only [World.size_alloc, World.size_drew, size_drewN]); omega)).eq HRE.out); have hm3 : m3 ≤ m1 := (H4b.out.len (Nat.lt_trans (by simpa using HRL.out) (by simpa using HYL.out))); have hz3 := hb3.size; (try simp only [sZ] at hz3); have ⟨r0, r1, r2, r3, r4, r5⟩ : w3.cell? ⟨w.heap.size, 0, none⟩ = some (.bool false) ∧ w3.cell? ⟨w.heap.size, 1, none⟩ = some (.slice a1 n1 c1) ∧ w3.cell? ⟨w.heap.size + 1, 0, none⟩ = some (.bool false) ∧ w3.cell? ⟨w.heap.size + 1, 1, none⟩ = some (.slice b1 m1 e1) ∧ w3.cell? ⟨w.heap.size + 1 + 1, 0, none⟩ = some (.bool false) ∧ w3.cell? ⟨w.heap.size + 1 + 1, 1, none⟩ = some (.slice none 0 0) := (by and_intros <;> (with_reducible repeat (first | exact r0 | exact r1 | exact r2 | exact r3 | exact r4 | exact r5 | exact r6 | exact r7 | exact r8 | exact r9 | exact r10 | exact r11 | refine kc_drew ?_ | refine kc_drewN _ ?_ | refine kc_below hb3 ?_ | (refine kc_new ?_ ?_; (· first | rfl | simp only [sZ]); (· first | rfl | simp)) | (refine kc_set0 ?_ ?_; (· first | rfl | simp)) | exact ct_of (by assumption) | refine ct_drew ?_ | refine ct_drewN _ ?_ | refine ct_below hb3 ?_ | (refine ct_new ?_ ?_; (· first | rfl | simp only [sZ]); (· first | rfl | simp)) | refine ct_set _ _ ?_ | refine ct_alloc _ ?_ | (refine kc_set ?_ ?_; (focus first | (intro hx; injection hx; omega) | (simp; done))) | refine kc_alloc _ ?_))); have ⟨r6, r7, r8, r9, r10, r11⟩ : w3.frozen? ⟨w.heap.size, 0, none⟩ = false ∧ w3.frozen? ⟨w.heap.size, 1, none⟩ = false ∧ w3.frozen? ⟨w.heap.size + 1, 0, none⟩ = false ∧ w3.frozen? ⟨w.heap.size + 1, 1, none⟩ = false ∧ w3.frozen? ⟨w.heap.size + 1 + 1, 0, none⟩ = false ∧ w3.frozen? ⟨w.heap.size + 1 + 1, 1, none⟩ = false := (by and_intros <;> (with_reducible repeat (first | exact r0 | exact r1 | exact r2 | exact r3 | exact r4 | exact r5 | exact r6 | exact r7 | exact r8 | exact r9 | exact r10 | exact r11 | refine kf_drew ?_ | refine kf_drewN _ ?_ | (refine kf_new ?_ _; (· first | rfl | simp only [sZ])) | refine kf_set _ _ ?_ | (refine kf_below hb3 ?_ ?_; (focus simp only [sZ]; omega)) | (refine kf_alloc _ ?_ ?_; (focus first | (simp only [sZ]; omega) | (dsimp only; omega)))))); have hB3 : Below w.heap.size w w3 := (by (with_reducible repeat (first | exact hB | exact bR | refine bA ?_ | refine bD ?_ | refine bN ?_ | (refine bS ?_ ?_; (· dsimp only; omega)) | refine bl_call ?_ hb3))); have HK3 : Hid (Kept p w b1 m1 e1 (y1 : Int) w3) := (HKY.out.call (by (with_reducible repeat (first | exact bR | refine bA ?_ | refine bD ?_ | refine bN ?_ | (refine bS ?_ ?_; (· dsimp only; omega)) | refine bl_call ?_ hb3)))); have HKR : Hid (Kept p w b3 m3 e3 (rr : Int) w3) := (Or.inr H4b.out); clear H3 H4; have g0 : w.heap.size < w3.heap.size := (by omega); have g1 : w.heap.size + 1 < w3.heap.size := (by omega); have g2 : w.heap.size + 1 + 1 < w3.heap.size := (by omega))
        go_region
        go_wp2_with fail
        go_roundg rr
        case measure =>
          have := HRL.out
          omega
        case rel =>
          refine ⟨b1, m1, e1, b3, m3, e3, y1, rr, by omega, by omega, Nat.le_refl _, ⟨⟨?_, ?_, ?_, ?_, ?_, ?_, ?_, ?_, ?_, ?_, ?_, ?_, ?_⟩, ?_, ?_, ?_⟩⟩
          · (with_reducible repeat (first | exact r0 | exact r1 | exact r2 | exact r3 | exact r4 | exact r5 | refine kc_drew ?_ | refine kc_drewN _ ?_ | (refine kc_new ?_ ?_; (· first | rfl | simp only [sZ]); (· first | rfl | simp)) | (refine kc_set0 ?_ ?_; (· first | rfl | simp)) | exact ct_of (by assumption) | refine ct_drew ?_ | refine ct_drewN _ ?_ | (refine ct_new ?_ ?_; (· first | rfl | simp only [sZ]); (· first | rfl | simp)) | refine ct_set _ _ ?_ | refine ct_alloc _ ?_ | (refine kc_set ?_ ?_; (focus first | (intro hx; injection hx; omega) | (simp; done))) | refine kc_alloc _ ?_))
          · (with_reducible repeat (first | exact r0 | exact r1 | exact r2 | exact r3 | exact r4 | exact r5 | refine kc_drew ?_ | refine kc_drewN _ ?_ | (refine kc_new ?_ ?_; (· first | rfl | simp only [sZ]); (· first | rfl | simp)) | (refine kc_set0 ?_ ?_; (· first | rfl | simp)) | exact ct_of (by assumption) | refine ct_drew ?_ | refine ct_drewN _ ?_ | (refine ct_new ?_ ?_; (· first | rfl | simp only [sZ]); (· first | rfl | simp)) | refine ct_set _ _ ?_ | refine ct_alloc _ ?_ | (refine kc_set ?_ ?_; (focus first | (intro hx; injection hx; omega) | (simp; done))) | refine kc_alloc _ ?_))
          · (with_reducible repeat (first | exact r0 | exact r1 | exact r2 | exact r3 | exact r4 | exact r5 | refine kc_drew ?_ | refine kc_drewN _ ?_ | (refine kc_new ?_ ?_; (· first | rfl | simp only [sZ]); (· first | rfl | simp)) | (refine kc_set0 ?_ ?_; (· first | rfl | simp)) | exact ct_of (by assumption) | refine ct_drew ?_ | refine ct_drewN _ ?_ | (refine ct_new ?_ ?_; (· first | rfl | simp only [sZ]); (· first | rfl | simp)) | refine ct_set _ _ ?_ | refine ct_alloc _ ?_ | (refine kc_set ?_ ?_; (focus first | (intro hx; injection hx; omega) | (simp; done))) | refine kc_alloc _ ?_))
          · (with_reducible repeat (first | exact r0 | exact r1 | exact r2 | exact r3 | exact r4 | exact r5 | refine kc_drew ?_ | refine kc_drewN _ ?_ | (refine kc_new ?_ ?_; (· first | rfl | simp only [sZ]); (· first | rfl | simp)) | (refine kc_set0 ?_ ?_; (· first | rfl | simp)) | exact ct_of (by assumption) | refine ct_drew ?_ | refine ct_drewN _ ?_ | (refine ct_new ?_ ?_; (· first | rfl | simp only [sZ]); (· first | rfl | simp)) | refine ct_set _ _ ?_ | refine ct_alloc _ ?_ | (refine kc_set ?_ ?_; (focus first | (intro hx; injection hx; omega) | (simp; done))) | refine kc_alloc _ ?_))
          · (with_reducible repeat (first | exact r0 | exact r1 | exact r2 | exact r3 | exact r4 | exact r5 | refine kc_drew ?_ | refine kc_drewN _ ?_ | (refine kc_new ?_ ?_; (· first | rfl | simp only [sZ]); (· first | rfl | simp)) | (refine kc_set0 ?_ ?_; (· first | rfl | simp)) | exact ct_of (by assumption) | refine ct_drew ?_ | refine ct_drewN _ ?_ | (refine ct_new ?_ ?_; (· first | rfl | simp only [sZ]); (· first | rfl | simp)) | refine ct_set _ _ ?_ | refine ct_alloc _ ?_ | (refine kc_set ?_ ?_; (focus first | (intro hx; injection hx; omega) | (simp; done))) | refine kc_alloc _ ?_))
          · (with_reducible repeat (first | exact r0 | exact r1 | exact r2 | exact r3 | exact r4 | exact r5 | refine kc_drew ?_ | refine kc_drewN _ ?_ | (refine kc_new ?_ ?_; (· first | rfl | simp only [sZ]); (· first | rfl | simp)) | (refine kc_set0 ?_ ?_; (· first | rfl | simp)) | exact ct_of (by assumption) | refine ct_drew ?_ | refine ct_drewN _ ?_ | (refine ct_new ?_ ?_; (· first | rfl | simp only [sZ]); (· first | rfl | simp)) | refine ct_set _ _ ?_ | refine ct_alloc _ ?_ | (refine kc_set ?_ ?_; (focus first | (intro hx; injection hx; omega) | (simp; done))) | refine kc_alloc _ ?_))
          · (with_reducible repeat (first | exact r6 | exact r7 | exact r8 | exact r9 | exact r10 | exact r11 | refine kf_drew ?_ | refine kf_drewN _ ?_ | (refine kf_new ?_ _; (· first | rfl | simp only [sZ])) | refine kf_set _ _ ?_ | (refine kf_alloc _ ?_ ?_; (focus first | (simp only [sZ]; omega) | (dsimp only; omega)))))
          · (with_reducible repeat (first | exact r6 | exact r7 | exact r8 | exact r9 | exact r10 | exact r11 | refine kf_drew ?_ | refine kf_drewN _ ?_ | (refine kf_new ?_ _; (· first | rfl | simp only [sZ])) | refine kf_set _ _ ?_ | (refine kf_alloc _ ?_ ?_; (focus first | (simp only [sZ]; omega) | (dsimp only; omega)))))
          · (with_reducible repeat (first | exact r6 | exact r7 | exact r8 | exact r9 | exact r10 | exact r11 | refine kf_drew ?_ | refine kf_drewN _ ?_ | (refine kf_new ?_ _; (· first | rfl | simp only [sZ])) | refine kf_set _ _ ?_ | (refine kf_alloc _ ?_ ?_; (focus first | (simp only [sZ]; omega) | (dsimp only; omega)))))
          · (with_reducible repeat (first | exact r6 | exact r7 | exact r8 | exact r9 | exact r10 | exact r11 | refine kf_drew ?_ | refine kf_drewN _ ?_ | (refine kf_new ?_ _; (· first | rfl | simp only [sZ])) | refine kf_set _ _ ?_ | (refine kf_alloc _ ?_ ?_; (focus first | (simp only [sZ]; omega) | (dsimp only; omega)))))
          · (with_reducible repeat (first | exact r6 | exact r7 | exact r8 | exact r9 | exact r10 | exact r11 | refine kf_drew ?_ | refine kf_drewN _ ?_ | (refine kf_new ?_ _; (· first | rfl | simp only [sZ])) | refine kf_set _ _ ?_ | (refine kf_alloc _ ?_ ?_; (focus first | (simp only [sZ]; omega) | (dsimp only; omega)))))
          · (with_reducible repeat (first | exact r6 | exact r7 | exact r8 | exact r9 | exact r10 | exact r11 | refine kf_drew ?_ | refine kf_drewN _ ?_ | (refine kf_new ?_ _; (· first | rfl | simp only [sZ])) | refine kf_set _ _ ?_ | (refine kf_alloc _ ?_ ?_; (focus first | (simp only [sZ]; omega) | (dsimp only; omega)))))
          · (with_reducible repeat (first | exact hB3 | exact bR | refine bA ?_ | refine bD ?_ | refine bN ?_ | (refine bS ?_ ?_; (· dsimp only; omega))))
          · (repeat (first | with_reducible exact HK3.out | with_reducible refine kept_drew ?_ | with_reducible refine kept_alloc _ ?_ | (with_reducible refine kept_set ?_ (by omega))))
          · (repeat (first | with_reducible exact HKR.out | with_reducible refine kept_drew ?_ | with_reducible refine kept_alloc _ ?_ | (with_reducible refine kept_set ?_ (by omega))))
          · exact HRG.out
end Go.Proofs.Ytoenimkgagndnaa
namespace Go.Proofs.Ytoenimkgagndnaa
set_option linter.unusedVariables false
set_option linter.unusedSimpArgs false
open Go.RowKit Go.Lib Go.Dig

/-- What a function returns that makes a fraction of any size. -/
def QP (p : Nat) (w : World) (x y : Int) (v : Ending) (w' : World) : Prop :=
  ∃ s a n c t b m e, v = .returned (.agg #[.bool s, .slice a n c, .bool t, .slice b m e]) ∧ Hid (Zat p w' s a n c x) ∧ Hid (Zat p w' t b m e y) ∧ Below w.heap.size w w'

set_option maxHeartbeats 4000000 in
set_option maxRecDepth 100000 in
theorem over_false (p : Nat) (s : Bool) (a b : Option Addr) (n c m e : Nat) (x y : Int) (w : World) (hx : Zat p w s a n c x) (hy : Zat p w false b m e y) :
    Calls Try.prog 56 #[.agg #[.bool s, .slice a n c], .agg #[.bool false, .slice b m e]] w (QP p w x y) := by
  have HX : Hid (∀ W, Below w.heap.size w W → Zat p W s a n c x) := fun W hW => hx.below hW
  have HY : Hid (∀ W, Below w.heap.size w W → Zat p W false b m e y) := fun W hW => hy.below hW
  clear hx hy
  go_enter Try.func56, Try.ntmps56
  go_wp2_with fail
  exact bodyPost_ret (v := .agg #[.bool s, .slice a n c, .bool false, .slice b m e]) (by simp [results, Try.results56, go_sem]) rfl
    ⟨s, a, n, c, false, b, m, e, rfl, HX.out _ (by (with_reducible repeat (first | exact bR | refine bA ?_ | refine bD ?_ | refine bN ?_ | (refine bS ?_ ?_; (· dsimp only; omega))))), HY.out _ (by (with_reducible repeat (first | exact bR | refine bA ?_ | refine bD ?_ | refine bN ?_ | (refine bS ?_ ?_; (· dsimp only; omega))))), by (with_reducible repeat (first | exact bR | refine bA ?_ | refine bD ?_ | refine bN ?_ | (refine bS ?_ ?_; (· dsimp only; omega))))⟩

set_option maxHeartbeats 4000000 in
set_option maxRecDepth 100000 in
theorem over_true (p : Nat) (s : Bool) (a b : Option Addr) (n c m e : Nat) (x y : Int) (w : World) (hx : Zat p w s a n c x) (hy : Zat p w true b m e y) :
    Calls Try.prog 56 #[.agg #[.bool s, .slice a n c], .agg #[.bool true, .slice b m e]] w (QP p w (-x) (-y)) := by
  have HX : Hid (∀ W, Below w.heap.size w W → Zat p W (!s && decide (0 < n)) a n c (-x)) := fun W hW => (hx.below hW).neg
  have HY : Hid (∀ W, Below w.heap.size w W → Zat p W (!true && decide (0 < m)) b m e (-y)) := fun W hW => (hy.below hW).neg
  clear hx hy
  have HN1 := fun W => Lib.hid (negZ_any s a n c W)
  have HN2 := fun W => Lib.hid (negZ_any true b m e W)
  generalize (!s && decide (0 < n)) = s' at *
  generalize (!true && decide (0 < m)) = t' at *
  go_enter Try.func56, Try.ntmps56
  go_wp2_with fail
  go_region_with (first
    | (go_at_call 89; ((with_reducible refine (HN1 _).out.mono ?_); rintro v w1 ⟨rfl, hk1⟩; have hb1 := hk1.below; have hz1 := hb1.size; (try simp only [sZ] at hz1); have ⟨r0, r1, r2, r3, r8, r9, r10, r11⟩ : w1.cell? ⟨w.heap.size, 0, none⟩ = some (.bool s) ∧ w1.cell? ⟨w.heap.size, 1, none⟩ = some (.slice a n c) ∧ w1.cell? ⟨w.heap.size + 1, 0, none⟩ = some (.bool true) ∧ w1.cell? ⟨w.heap.size + 1, 1, none⟩ = some (.slice b m e) ∧ w1.cell? ⟨w.heap.size + 1 + 1, 0, none⟩ = some (.bool false) ∧ w1.cell? ⟨w.heap.size + 1 + 1, 1, none⟩ = some (.slice none 0 0) ∧ w1.cell? ⟨w.heap.size + 1 + 1, 2, none⟩ = some (.bool false) ∧ w1.cell? ⟨w.heap.size + 1 + 1, 3, none⟩ = some (.slice none 0 0) := (by and_intros <;> (with_reducible repeat (first | exact r0 | exact r1 | exact r2 | exact r3 | exact r4 | exact r5 | exact r6 | exact r7 | exact r8 | exact r9 | exact r10 | exact r11 | exact r12 | exact r13 | exact r14 | exact r15 | refine kc_drew ?_ | refine kc_drewN _ ?_ | refine kc_below hb1 ?_ | refine kc_below hb2 ?_ | (refine kc_new ?_ ?_; (· first | rfl | simp only [sZ]); (· first | rfl | simp)) | (refine kc_set0 ?_ ?_; (· first | rfl | simp)) | exact ct_of (by assumption) | refine ct_drew ?_ | refine ct_drewN _ ?_ | refine ct_below hb1 ?_ | refine ct_below hb2 ?_ | (refine ct_new ?_ ?_; (· first | rfl | simp only [sZ]); (· first | rfl | simp)) | refine ct_set _ _ ?_ | refine ct_alloc _ ?_ | (refine kc_set ?_ ?_; (focus first | (intro hx; injection hx; omega) | (simp; done))) | refine kc_alloc _ ?_))); have ⟨r4, r5, r6, r7, r12, r13, r14, r15⟩ : w1.frozen? ⟨w.heap.size, 0, none⟩ = false ∧ w1.frozen? ⟨w.heap.size, 1, none⟩ = false ∧ w1.frozen? ⟨w.heap.size + 1, 0, none⟩ = false ∧ w1.frozen? ⟨w.heap.size + 1, 1, none⟩ = false ∧ w1.frozen? ⟨w.heap.size + 1 + 1, 0, none⟩ = false ∧ w1.frozen? ⟨w.heap.size + 1 + 1, 1, none⟩ = false ∧ w1.frozen? ⟨w.heap.size + 1 + 1, 2, none⟩ = false ∧ w1.frozen? ⟨w.heap.size + 1 + 1, 3, none⟩ = false := (by and_intros <;> (with_reducible repeat (first | exact r0 | exact r1 | exact r2 | exact r3 | exact r4 | exact r5 | exact r6 | exact r7 | exact r8 | exact r9 | exact r10 | exact r11 | exact r12 | exact r13 | exact r14 | exact r15 | refine kf_drew ?_ | refine kf_drewN _ ?_ | (refine kf_new ?_ _; (· first | rfl | simp only [sZ])) | refine kf_set _ _ ?_ | (refine kf_below hb1 ?_ ?_; (focus simp only [sZ]; omega)) | (refine kf_below hb2 ?_ ?_; (focus simp only [sZ]; omega)) | (refine kf_alloc _ ?_ ?_; (focus first | (simp only [sZ]; omega) | (dsimp only; omega)))))); have hB : Below w.heap.size w w1 := (by (with_reducible repeat (first | exact hB | exact bR | refine bA ?_ | refine bD ?_ | refine bN ?_ | (refine bS ?_ ?_; (· dsimp only; omega)) | refine bl_call ?_ hb1))); have g2 : w.heap.size + 1 + 1 < w1.heap.size := (by omega)))
    | (go_at_call 89; ((with_reducible refine (HN2 _).out.mono ?_); rintro v w2 ⟨rfl, hk2⟩; have hb2 := hk2.below; have hz2 := hb2.size; (try simp only [sZ] at hz2); have ⟨r0, r1, r2, r3, r8, r9, r10, r11⟩ : w2.cell? ⟨w.heap.size, 0, none⟩ = some (.bool s) ∧ w2.cell? ⟨w.heap.size, 1, none⟩ = some (.slice a n c) ∧ w2.cell? ⟨w.heap.size + 1, 0, none⟩ = some (.bool true) ∧ w2.cell? ⟨w.heap.size + 1, 1, none⟩ = some (.slice b m e) ∧ w2.cell? ⟨w.heap.size + 1 + 1, 0, none⟩ = some (.bool false) ∧ w2.cell? ⟨w.heap.size + 1 + 1, 1, none⟩ = some (.slice none 0 0) ∧ w2.cell? ⟨w.heap.size + 1 + 1, 2, none⟩ = some (.bool false) ∧ w2.cell? ⟨w.heap.size + 1 + 1, 3, none⟩ = some (.slice none 0 0) := (by and_intros <;> (with_reducible repeat (first | exact r0 | exact r1 | exact r2 | exact r3 | exact r4 | exact r5 | exact r6 | exact r7 | exact r8 | exact r9 | exact r10 | exact r11 | exact r12 | exact r13 | exact r14 | exact r15 | refine kc_drew ?_ | refine kc_drewN _ ?_ | refine kc_below hb2 ?_ | refine kc_below hb1 ?_ | (refine kc_new ?_ ?_; (· first | rfl | simp only [sZ]); (· first | rfl | simp)) | (refine kc_set0 ?_ ?_; (· first | rfl | simp)) | exact ct_of (by assumption) | refine ct_drew ?_ | refine ct_drewN _ ?_ | refine ct_below hb2 ?_ | refine ct_below hb1 ?_ | (refine ct_new ?_ ?_; (· first | rfl | simp only [sZ]); (· first | rfl | simp)) | refine ct_set _ _ ?_ | refine ct_alloc _ ?_ | (refine kc_set ?_ ?_; (focus first | (intro hx; injection hx; omega) | (simp; done))) | refine kc_alloc _ ?_))); have ⟨r4, r5, r6, r7, r12, r13, r14, r15⟩ : w2.frozen? ⟨w.heap.size, 0, none⟩ = false ∧ w2.frozen? ⟨w.heap.size, 1, none⟩ = false ∧ w2.frozen? ⟨w.heap.size + 1, 0, none⟩ = false ∧ w2.frozen? ⟨w.heap.size + 1, 1, none⟩ = false ∧ w2.frozen? ⟨w.heap.size + 1 + 1, 0, none⟩ = false ∧ w2.frozen? ⟨w.heap.size + 1 + 1, 1, none⟩ = false ∧ w2.frozen? ⟨w.heap.size + 1 + 1, 2, none⟩ = false ∧ w2.frozen? ⟨w.heap.size + 1 + 1, 3, none⟩ = false := (by and_intros <;> (with_reducible repeat (first | exact r0 | exact r1 | exact r2 | exact r3 | exact r4 | exact r5 | exact r6 | exact r7 | exact r8 | exact r9 | exact r10 | exact r11 | exact r12 | exact r13 | exact r14 | exact r15 | refine kf_drew ?_ | refine kf_drewN _ ?_ | (refine kf_new ?_ _; (· first | rfl | simp only [sZ])) | refine kf_set _ _ ?_ | (refine kf_below hb2 ?_ ?_; (focus simp only [sZ]; omega)) | (refine kf_below hb1 ?_ ?_; (focus simp only [sZ]; omega)) | (refine kf_alloc _ ?_ ?_; (focus first | (simp only [sZ]; omega) | (dsimp only; omega)))))); have hB : Below w.heap.size w w2 := (by (with_reducible repeat (first | exact hB | exact bR | refine bA ?_ | refine bD ?_ | refine bN ?_ | (refine bS ?_ ?_; (· dsimp only; omega)) | refine bl_call ?_ hb2))); have g2 : w.heap.size + 1 + 1 < w2.heap.size := (by omega))))
  all_goals go_wp2_with fail
  all_goals
    exact bodyPost_ret (v := .agg #[.bool s', .slice a n c, .bool t', .slice b m e]) (by simp [results, Try.results56, go_sem, r8, r9, r10, r11, g2, Nat.ne_of_lt g2]) rfl
      ⟨s', a, n, c, t', b, m, e, rfl, HX.out _ (by (with_reducible repeat (first | exact hB | exact bR | refine bA ?_ | refine bD ?_ | refine bN ?_ | (refine bS ?_ ?_; (· dsimp only; omega))))), HY.out _ (by (with_reducible repeat (first | exact hB | exact bR | refine bA ?_ | refine bD ?_ | refine bN ?_ | (refine bS ?_ ?_; (· dsimp only; omega))))), by (with_reducible repeat (first | exact hB | exact bR | refine bA ?_ | refine bD ?_ | refine bN ?_ | (refine bS ?_ ?_; (· dsimp only; omega))))⟩
theorem over_any (p : Nat) (s t : Bool) (a b : Option Addr) (n c m e : Nat) (x y : Int) (w : World) (hx : Zat p w s a n c x) (hy : Zat p w t b m e y) :
    Calls Try.prog 56 #[.agg #[.bool s, .slice a n c], .agg #[.bool t, .slice b m e]] w (QP p w (if y < 0 then -x else x) (if y < 0 then -y else y)) := by
  have ht := hy.1
  cases t
  · have : ¬ y < 0 := of_decide_eq_false ht.symm
    rw [if_neg this, if_neg this]
    exact over_false p s a b n c m e x y w hx hy
  · have : y < 0 := of_decide_eq_true ht.symm
    rw [if_pos this, if_pos this]
    exact over_true p s a b n c m e x y w hx hy
end Go.Proofs.Ytoenimkgagndnaa
namespace Go.Proofs.Ytoenimkgagndnaa
set_option linter.unusedVariables false
set_option linter.unusedSimpArgs false
open Go.RowKit Go.Lib Go.Dig

set_option maxHeartbeats 4000000 in
set_option maxRecDepth 100000 in
theorem lowest_any (p : Nat) (s t : Bool) (a b : Option Addr) (n c m e : Nat) (X Y : Int) (w : World) (hx : Zat p w s a n c X) (hy : Zat p w t b m e Y) (hp : p ≤ w.heap.size) (hY : 1 ≤ Y) (hn : n ≤ 9999) (hm : m ≤ 9999) :
    Calls Try.prog 74 #[.agg #[.bool s, .slice a n c, .bool t, .slice b m e]] w (QP (w.heap.size + 2) w (X / (Nat.gcd X.natAbs Y.natAbs : Nat)) (Y / (Nat.gcd X.natAbs Y.natAbs : Nat))) := by
  have HX : Hid (∀ W, Below w.heap.size w W → Zat p W s a n c X) := fun W hW => hx.below hW
  have HY : Hid (∀ W, Below w.heap.size w W → Zat p W t b m e Y) := fun W hW => hy.below hW
  have hYl := hy.lt
  have hG0 : 0 < Nat.gcd X.natAbs Y.natAbs := Nat.gcd_pos_of_pos_right _ (by omega)
  have hG1 : Nat.gcd X.natAbs Y.natAbs ≤ Y.natAbs := Nat.le_of_dvd (by omega) (Nat.gcd_dvd_right _ _)
  clear hx hy
  obtain ⟨G, hG⟩ : ∃ G, Nat.gcd X.natAbs Y.natAbs = G := ⟨_, rfl⟩
  have HC := fun a1 n1 c1 b1 m1 e1 s1 t1 W h1 h2 h3 h4 h5 => Lib.hid (gcdZ_any p s1 t1 a1 b1 n1 c1 m1 e1 X Y W h1 h2 h3 h4 h5)
  rw [hG] at hG0 hG1 HC ⊢
  have hGl : Hid ((G : Int).natAbs < 10000 ^ m) := (show (G : Int).natAbs < 10000 ^ m by omega)
  clear hG hYl hG1
  go_enter Try.func74, Try.ntmps74
  go_wp2_with (first
    | (go_at_call 59; refine (HC _ _ _ _ _ _ _ _ _ (HX.out _ (by (with_reducible repeat (first | exact bR | refine bA ?_ | refine bD ?_ | refine bN ?_ | (refine bS ?_ ?_; (· dsimp only; omega)))))) (HY.out _ (by (with_reducible repeat (first | exact bR | refine bA ?_ | refine bD ?_ | refine bN ?_ | (refine bS ?_ ?_; (· dsimp only; omega)))))) (by simp only [World.size_alloc]; omega) (by omega) (by omega)).out.mono ?_; rintro v w2 ⟨s2, a2, n2, c2, rfl, H2, hb2⟩; obtain rfl := H2.out.plus (by omega); have hn2 : n2 ≤ m := (H2.out.len hGl.out); have hzw2 := (hb2).size; (try simp only [sZ] at hzw2); have ⟨r0, r1, r2, r3, r4, r5, r6, r7⟩ : w2.cell? ⟨w.heap.size, 0, none⟩ = some (.bool s) ∧ w2.cell? ⟨w.heap.size, 1, none⟩ = some (.slice a n c) ∧ w2.cell? ⟨w.heap.size, 2, none⟩ = some (.bool t) ∧ w2.cell? ⟨w.heap.size, 3, none⟩ = some (.slice b m e) ∧ w2.cell? ⟨w.heap.size + 1, 0, none⟩ = some (.bool false) ∧ w2.cell? ⟨w.heap.size + 1, 1, none⟩ = some (.slice none 0 0) ∧ w2.cell? ⟨w.heap.size + 1, 2, none⟩ = some (.bool false) ∧ w2.cell? ⟨w.heap.size + 1, 3, none⟩ = some (.slice none 0 0) := (by and_intros <;> (with_reducible repeat (first | exact r0 | exact r1 | exact r2 | exact r3 | exact r4 | exact r5 | exact r6 | exact r7 | exact r8 | exact r9 | exact r10 | exact r11 | refine kc_drew ?_ | refine kc_drewN _ ?_ | refine kc_below hb2 ?_ | (refine kc_new ?_ ?_; (· first | rfl | simp only [sZ]); (· first | rfl | simp)) | (refine kc_set0 ?_ ?_; (· first | rfl | simp)) | exact ct_of (by assumption) | refine ct_drew ?_ | refine ct_drewN _ ?_ | refine ct_below hb2 ?_ | (refine ct_new ?_ ?_; (· first | rfl | simp only [sZ]); (· first | rfl | simp)) | refine ct_set _ _ ?_ | refine ct_alloc _ ?_ | (refine kc_set ?_ ?_; (focus first | (intro hx; injection hx; omega) | (simp; done))) | refine kc_alloc _ ?_))); have ⟨r8, r9, r10, r11⟩ : w2.frozen? ⟨w.heap.size + 1, 0, none⟩ = false ∧ w2.frozen? ⟨w.heap.size + 1, 1, none⟩ = false ∧ w2.frozen? ⟨w.heap.size + 1, 2, none⟩ = false ∧ w2.frozen? ⟨w.heap.size + 1, 3, none⟩ = false := (by and_intros <;> (with_reducible repeat (first | exact r0 | exact r1 | exact r2 | exact r3 | exact r4 | exact r5 | exact r6 | exact r7 | exact r8 | exact r9 | exact r10 | exact r11 | refine kf_drew ?_ | refine kf_drewN _ ?_ | (refine kf_new ?_ _; (· first | rfl | simp only [sZ])) | refine kf_set _ _ ?_ | (refine kf_below hb2 ?_ ?_; (focus simp only [sZ]; omega)) | (refine kf_alloc _ ?_ ?_; (focus first | (simp only [sZ]; omega) | (dsimp only; omega)))))); have hB : Below w.heap.size w w2 := (by (with_reducible repeat (first | exact hB | exact bR | refine bA ?_ | refine bD ?_ | refine bN ?_ | (refine bS ?_ ?_; (· dsimp only; omega)) | refine bl_call ?_ hb2))); have g0w2 : w.heap.size < w2.heap.size := (by omega); have g1w2 : w.heap.size + 1 < w2.heap.size := (by omega))
    | (go_at_call 93; have hgd := Z3; clear hgd; refine (divZ_any t b a2 m e n2 c2 Y (G : Int) _ (HY.out _ (by (with_reducible repeat (first | exact hB | exact bR | refine bA ?_ | refine bD ?_ | refine bN ?_ | (refine bS ?_ ?_; (· dsimp only; omega)))))) (H2.out.below (by (with_reducible repeat (first | exact bR | refine bA ?_ | refine bD ?_ | refine bN ?_ | (refine bS ?_ ?_; (· dsimp only; omega)) | refine bl_call ?_ hb3)))) (by omega) (by omega) (by omega)).mono ?_; rintro v w4 ⟨s4, a4, n4, c4, t4, b4, m4, e4, rfl, H4, _, hb4⟩; have Z4 : Hid (Zat (w.heap.size + 2) w4 s4 a4 n4 c4 (Y / (G : Int))) := (H4.out.mono (by (try simp only [sZ]); omega)); have Z3b : Hid (Zat (w.heap.size + 2) w4 s3 a3 n3 c3 (X / (G : Int))) := (Z3.out.below (by (with_reducible repeat (first | exact bR | refine bA ?_ | refine bD ?_ | refine bN ?_ | (refine bS ?_ ?_; (· dsimp only; omega)) | refine bl_call ?_ hb4)))); have gw4 : w3.heap.size < w4.heap.size := (by have := hb4.size; (try simp only [sZ] at this); omega); have j0 : w4.cell? ⟨w3.heap.size, 0, none⟩ = some (.bool s3) := (by (with_reducible repeat (first | refine kc_drew ?_ | refine kc_drewN _ ?_ | refine kc_below hb4 ?_ | (refine kc_new ?_ ?_; (· first | rfl | simp only [sZ]); (· first | rfl | simp)) | (refine kc_set0 ?_ ?_; (· first | rfl | simp)) | exact ct_of (by assumption) | refine ct_drew ?_ | refine ct_drewN _ ?_ | refine ct_below hb4 ?_ | (refine ct_new ?_ ?_; (· first | rfl | simp only [sZ]); (· first | rfl | simp)) | refine ct_set _ _ ?_ | refine ct_alloc _ ?_ | (refine kc_set ?_ ?_; (focus first | (intro hx; injection hx; omega) | (simp; done))) | refine kc_alloc _ ?_))); have j1 : w4.cell? ⟨w3.heap.size, 1, none⟩ = some (.slice a3 n3 c3) := (by (with_reducible repeat (first | refine kc_drew ?_ | refine kc_drewN _ ?_ | refine kc_below hb4 ?_ | (refine kc_new ?_ ?_; (· first | rfl | simp only [sZ]); (· first | rfl | simp)) | (refine kc_set0 ?_ ?_; (· first | rfl | simp)) | exact ct_of (by assumption) | refine ct_drew ?_ | refine ct_drewN _ ?_ | refine ct_below hb4 ?_ | (refine ct_new ?_ ?_; (· first | rfl | simp only [sZ]); (· first | rfl | simp)) | refine ct_set _ _ ?_ | refine ct_alloc _ ?_ | (refine kc_set ?_ ?_; (focus first | (intro hx; injection hx; omega) | (simp; done))) | refine kc_alloc _ ?_))); have hzw4 := (hb4).size; (try simp only [sZ] at hzw4); have ⟨r0, r1, r2, r3, r4, r5, r6, r7⟩ : w4.cell? ⟨w.heap.size, 0, none⟩ = some (.bool s) ∧ w4.cell? ⟨w.heap.size, 1, none⟩ = some (.slice a n c) ∧ w4.cell? ⟨w.heap.size, 2, none⟩ = some (.bool t) ∧ w4.cell? ⟨w.heap.size, 3, none⟩ = some (.slice b m e) ∧ w4.cell? ⟨w.heap.size + 1, 0, none⟩ = some (.bool false) ∧ w4.cell? ⟨w.heap.size + 1, 1, none⟩ = some (.slice none 0 0) ∧ w4.cell? ⟨w.heap.size + 1, 2, none⟩ = some (.bool false) ∧ w4.cell? ⟨w.heap.size + 1, 3, none⟩ = some (.slice none 0 0) := (by and_intros <;> (with_reducible repeat (first | exact r0 | exact r1 | exact r2 | exact r3 | exact r4 | exact r5 | exact r6 | exact r7 | exact r8 | exact r9 | exact r10 | exact r11 | refine kc_drew ?_ | refine kc_drewN _ ?_ | refine kc_below hb4 ?_ | (refine kc_new ?_ ?_; (· first | rfl | simp only [sZ]); (· first | rfl | simp)) | (refine kc_set0 ?_ ?_; (· first | rfl | simp)) | exact ct_of (by assumption) | refine ct_drew ?_ | refine ct_drewN _ ?_ | refine ct_below hb4 ?_ | (refine ct_new ?_ ?_; (· first | rfl | simp only [sZ]); (· first | rfl | simp)) | refine ct_set _ _ ?_ | refine ct_alloc _ ?_ | (refine kc_set ?_ ?_; (focus first | (intro hx; injection hx; omega) | (simp; done))) | refine kc_alloc _ ?_))); have ⟨r8, r9, r10, r11⟩ : w4.frozen? ⟨w.heap.size + 1, 0, none⟩ = false ∧ w4.frozen? ⟨w.heap.size + 1, 1, none⟩ = false ∧ w4.frozen? ⟨w.heap.size + 1, 2, none⟩ = false ∧ w4.frozen? ⟨w.heap.size + 1, 3, none⟩ = false := (by and_intros <;> (with_reducible repeat (first | exact r0 | exact r1 | exact r2 | exact r3 | exact r4 | exact r5 | exact r6 | exact r7 | exact r8 | exact r9 | exact r10 | exact r11 | refine kf_drew ?_ | refine kf_drewN _ ?_ | (refine kf_new ?_ _; (· first | rfl | simp only [sZ])) | refine kf_set _ _ ?_ | (refine kf_below hb4 ?_ ?_; (focus simp only [sZ]; omega)) | (refine kf_alloc _ ?_ ?_; (focus first | (simp only [sZ]; omega) | (dsimp only; omega)))))); have hB : Below w.heap.size w w4 := (by (with_reducible repeat (first | exact hB | exact bR | refine bA ?_ | refine bD ?_ | refine bN ?_ | (refine bS ?_ ?_; (· dsimp only; omega)) | refine bl_call ?_ hb4))); have g0w4 : w.heap.size < w4.heap.size := (by omega); have g1w4 : w.heap.size + 1 < w4.heap.size := (by omega))
    | (go_at_call 93; refine (divZ_any s a a2 n c n2 c2 X (G : Int) _ (HX.out _ (by (with_reducible repeat (first | exact hB | exact bR | refine bA ?_ | refine bD ?_ | refine bN ?_ | (refine bS ?_ ?_; (· dsimp only; omega)))))) (H2.out.below (by (with_reducible repeat (first | exact bR | refine bA ?_ | refine bD ?_ | refine bN ?_ | (refine bS ?_ ?_; (· dsimp only; omega)))))) (by omega) (by omega) (by omega)).mono ?_; rintro v w3 ⟨s3, a3, n3, c3, t3, b3, m3, e3, rfl, H3, _, hb3⟩; have Z3 : Hid (Zat (w.heap.size + 2) w3 s3 a3 n3 c3 (X / (G : Int))) := (H3.out.mono (by (try simp only [sZ]); omega)); have gw3 : w2.heap.size < w3.heap.size := (by have := hb3.size; (try simp only [sZ] at this); omega); have k0 : w3.cell? ⟨w2.heap.size, 0, none⟩ = some (.bool false) := (by (with_reducible repeat (first | refine kc_drew ?_ | refine kc_drewN _ ?_ | refine kc_below hb3 ?_ | (refine kc_new ?_ ?_; (· first | rfl | simp only [sZ]); (· first | rfl | simp)) | (refine kc_set0 ?_ ?_; (· first | rfl | simp)) | exact ct_of (by assumption) | refine ct_drew ?_ | refine ct_drewN _ ?_ | refine ct_below hb3 ?_ | (refine ct_new ?_ ?_; (· first | rfl | simp only [sZ]); (· first | rfl | simp)) | refine ct_set _ _ ?_ | refine ct_alloc _ ?_ | (refine kc_set ?_ ?_; (focus first | (intro hx; injection hx; omega) | (simp; done))) | refine kc_alloc _ ?_))); have k1 : w3.cell? ⟨w2.heap.size, 1, none⟩ = some (.slice a2 n2 c2) := (by (with_reducible repeat (first | refine kc_drew ?_ | refine kc_drewN _ ?_ | refine kc_below hb3 ?_ | (refine kc_new ?_ ?_; (· first | rfl | simp only [sZ]); (· first | rfl | simp)) | (refine kc_set0 ?_ ?_; (· first | rfl | simp)) | exact ct_of (by assumption) | refine ct_drew ?_ | refine ct_drewN _ ?_ | refine ct_below hb3 ?_ | (refine ct_new ?_ ?_; (· first | rfl | simp only [sZ]); (· first | rfl | simp)) | refine ct_set _ _ ?_ | refine ct_alloc _ ?_ | (refine kc_set ?_ ?_; (focus first | (intro hx; injection hx; omega) | (simp; done))) | refine kc_alloc _ ?_))); have hzw3 := (hb3).size; (try simp only [sZ] at hzw3); have ⟨r0, r1, r2, r3, r4, r5, r6, r7⟩ : w3.cell? ⟨w.heap.size, 0, none⟩ = some (.bool s) ∧ w3.cell? ⟨w.heap.size, 1, none⟩ = some (.slice a n c) ∧ w3.cell? ⟨w.heap.size, 2, none⟩ = some (.bool t) ∧ w3.cell? ⟨w.heap.size, 3, none⟩ = some (.slice b m e) ∧ w3.cell? ⟨w.heap.size + 1, 0, none⟩ = some (.bool false) ∧ w3.cell? ⟨w.heap.size + 1, 1, none⟩ = some (.slice none 0 0) ∧ w3.cell? ⟨w.heap.size + 1, 2, none⟩ = some (.bool false) ∧ w3.cell? ⟨w.heap.size + 1, 3, none⟩ = some (.slice none 0 0) := (by and_intros <;> (with_reducible repeat (first | exact r0 | exact r1 | exact r2 | exact r3 | exact r4 | exact r5 | exact r6 | exact r7 | exact r8 | exact r9 | exact r10 | exact r11 | refine kc_drew ?_ | refine kc_drewN _ ?_ | refine kc_below hb3 ?_ | (refine kc_new ?_ ?_; (· first | rfl | simp only [sZ]); (· first | rfl | simp)) | (refine kc_set0 ?_ ?_; (· first | rfl | simp)) | exact ct_of (by assumption) | refine ct_drew ?_ | refine ct_drewN _ ?_ | refine ct_below hb3 ?_ | (refine ct_new ?_ ?_; (· first | rfl | simp only [sZ]); (· first | rfl | simp)) | refine ct_set _ _ ?_ | refine ct_alloc _ ?_ | (refine kc_set ?_ ?_; (focus first | (intro hx; injection hx; omega) | (simp; done))) | refine kc_alloc _ ?_))); have ⟨r8, r9, r10, r11⟩ : w3.frozen? ⟨w.heap.size + 1, 0, none⟩ = false ∧ w3.frozen? ⟨w.heap.size + 1, 1, none⟩ = false ∧ w3.frozen? ⟨w.heap.size + 1, 2, none⟩ = false ∧ w3.frozen? ⟨w.heap.size + 1, 3, none⟩ = false := (by and_intros <;> (with_reducible repeat (first | exact r0 | exact r1 | exact r2 | exact r3 | exact r4 | exact r5 | exact r6 | exact r7 | exact r8 | exact r9 | exact r10 | exact r11 | refine kf_drew ?_ | refine kf_drewN _ ?_ | (refine kf_new ?_ _; (· first | rfl | simp only [sZ])) | refine kf_set _ _ ?_ | (refine kf_below hb3 ?_ ?_; (focus simp only [sZ]; omega)) | (refine kf_alloc _ ?_ ?_; (focus first | (simp only [sZ]; omega) | (dsimp only; omega)))))); have hB : Below w.heap.size w w3 := (by (with_reducible repeat (first | exact hB | exact bR | refine bA ?_ | refine bD ?_ | refine bN ?_ | (refine bS ?_ ?_; (· dsimp only; omega)) | refine bl_call ?_ hb3))); have g0w3 : w.heap.size < w3.heap.size := (by omega); have g1w3 : w.heap.size + 1 < w3.heap.size := (by omega)))
  exact bodyPost_ret (v := .agg #[.bool s3, .slice a3 n3 c3, .bool s4, .slice a4 n4 c4]) (by simp [results, Try.results74, go_sem, r4, r5, r6, r7, g1w4, Nat.ne_of_lt g1w4, World.cell?_alloc_lt, World.size_alloc, World.size_setCell, Nat.lt_succ_of_lt g1w4]) rfl
    ⟨s3, a3, n3, c3, s4, a4, n4, c4, rfl, Lib.hid (by (repeat (first | with_reducible exact Z3b.out | with_reducible refine zat_drew ?_ | with_reducible refine zat_drewN _ ?_ | with_reducible refine zat_alloc _ ?_ | (with_reducible refine zat_set ?_ (by omega))))), Lib.hid (by (repeat (first | with_reducible exact Z4.out | with_reducible refine zat_drew ?_ | with_reducible refine zat_drewN _ ?_ | with_reducible refine zat_alloc _ ?_ | (with_reducible refine zat_set ?_ (by omega))))), by (with_reducible repeat (first | exact hB | exact bR | refine bA ?_ | refine bD ?_ | refine bN ?_ | (refine bS ?_ ?_; (· dsimp only; omega))))⟩
end Go.Proofs.Ytoenimkgagndnaa
namespace Go.Proofs.Ytoenimkgagndnaa
set_option linter.unusedVariables false
set_option linter.unusedSimpArgs false
open Go.RowKit Go.Lib Go.Dig

/-- A number as an int, if it is from -2^62 to 2^62. -/
def smV (z : Int) : Value := if z.natAbs ≤ 4611686018427387904 then .tuple #[.int .i64 z, .bool true] else .tuple #[.int .i64 0, .bool false]

set_option maxHeartbeats 4000000 in
set_option maxRecDepth 100000 in
theorem small_walk (s : Bool) (a : Option Addr) (n c : Nat) (xs : List Nat) (w : World) {p : Nat} (hx : RdD p w a n c xs) (cx : Canon xs) (hn : n ≤ 999999) :
    Calls Try.prog 75 #[.agg #[.bool s, .slice a n c]] w fun v w' => v = .returned (if val xs ≤ 4611686018427387904 then .tuple #[.int .i64 (if s = true then -((val xs : Nat) : Int) else ((val xs : Nat) : Int)), .bool true] else .tuple #[.int .i64 0, .bool false]) ∧ Below w.heap.size w w' := by
  have HX : Hid (∀ W, Below w.heap.size w W → RdD p W a n c xs) := fun W hW => hx.below hW
  have HXL := Lib.hid hx.1
  have OX := Lib.hid cx
  have hz := cmpZ_cases' ((val xs : Nat) : Int) 4611686018427387904
  obtain ⟨cz, hcz⟩ : ∃ cz, cmpZ ((val xs : Nat) : Int) 4611686018427387904 = cz := ⟨_, rfl⟩
  have HZ : Hid (∀ W, Below w.heap.size w W → Zat p W false a n c ((val xs : Nat) : Int)) := fun W hW => ⟨(decide_eq_false (by omega)).symm, xs, hx.below hW, cx, by omega⟩
  clear hx cx
  rw [hcz] at hz
  have HC := Lib.hid hcz
  clear hcz
  by_cases h : val xs ≤ 4611686018427387904
  · have hc : cz ≤ 0 := by omega
    rw [if_pos h]
    clear hz
    have hc2 : decide ((0 : Int) < cz) = false := by simp; omega
    have HV : Hid (val xs ≤ 4611686018427387904) := h
    obtain ⟨V, hVe⟩ : ∃ V, V = (if s = true then -((val xs : Nat) : Int) else ((val xs : Nat) : Int)) := ⟨_, rfl⟩
    rw [← hVe]
    have HVE := Lib.hid hVe
    clear hVe h hc
    have hfd := field_M
    go_enter Try.func75, Try.ntmps75
    go_wp2_with fail
    go_region_held3 (fun w' => w'.cell? ⟨w.heap.size, 0, none⟩ = some (.bool s) ∧ w'.cell? ⟨w.heap.size, 1, none⟩ = some (.slice a n c)) (((try dsimp only); (repeat' apply And.intro)) <;> (with_reducible repeat (first | exact r0 | exact r1 | refine kc_drew ?_ | refine kc_drewN _ ?_ | refine kc_below hb2 ?_ | (refine kc_new ?_ ?_; (· first | rfl | simp only [sZ]); (· first | rfl | simp)) | (refine kc_set0 ?_ ?_; (· first | rfl | simp)) | exact ct_of (by assumption) | refine ct_drew ?_ | refine ct_drewN _ ?_ | refine ct_below hb2 ?_ | (refine ct_new ?_ ?_; (· first | rfl | simp only [sZ]); (· first | rfl | simp)) | refine ct_set _ _ ?_ | refine ct_alloc _ ?_ | (refine kc_set ?_ ?_; (focus first | (intro hx; injection hx; omega) | (simp; done))) | refine kc_alloc _ ?_))) (first
      | (go_at_call 57; refine (intZ_any 4611686018427387904 _ (by omega) (by omega)).mono ?_; rintro v w2 ⟨s2, a2, n2, c2, rfl, H2, hb2⟩; obtain rfl := H2.out.plus (by omega); have hn2 : n2 ≤ 5 := (H2.out.len (by decide)); have ⟨r0, r1⟩ : w2.cell? ⟨w.heap.size, 0, none⟩ = some (.bool s) ∧ w2.cell? ⟨w.heap.size, 1, none⟩ = some (.slice a n c) := (by and_intros <;> (with_reducible repeat (first | exact r0 | exact r1 | refine kc_drew ?_ | refine kc_drewN _ ?_ | refine kc_below hb2 ?_ | (refine kc_new ?_ ?_; (· first | rfl | simp only [sZ]); (· first | rfl | simp)) | (refine kc_set0 ?_ ?_; (· first | rfl | simp)) | exact ct_of (by assumption) | refine ct_drew ?_ | refine ct_drewN _ ?_ | refine ct_below hb2 ?_ | (refine ct_new ?_ ?_; (· first | rfl | simp only [sZ]); (· first | rfl | simp)) | refine ct_set _ _ ?_ | refine ct_alloc _ ?_ | (refine kc_set ?_ ?_; (focus first | (intro hx; injection hx; omega) | (simp; done))) | refine kc_alloc _ ?_))); have hB : Below w.heap.size w w2 := (by (with_reducible repeat (first | exact bR | refine bA ?_ | refine bD ?_ | refine bN ?_ | (refine bS ?_ ?_; (· dsimp only; omega)) | refine bl_call ?_ hb2))))
      | (go_at_call 99; refine (sizesZ_any _ _ _ _ _ _ _ _ _ (HZ.out _ (by (with_reducible repeat (first | exact hB | exact bR | refine bA ?_ | refine bD ?_ | refine bN ?_ | (refine bS ?_ ?_; (· dsimp only; omega)))))) (H2.out.below (by (with_reducible repeat (first | exact bR | refine bA ?_ | refine bD ?_ | refine bN ?_ | (refine bS ?_ ?_; (· dsimp only; omega)))))) (by omega) (by omega)).mono ?_; rw [HC.out]; rintro v w3 ⟨rfl, hk3⟩; have hb3 := hk3.below; have ⟨r0, r1⟩ : w3.cell? ⟨w.heap.size, 0, none⟩ = some (.bool s) ∧ w3.cell? ⟨w.heap.size, 1, none⟩ = some (.slice a n c) := (by and_intros <;> (with_reducible repeat (first | exact r0 | exact r1 | refine kc_drew ?_ | refine kc_drewN _ ?_ | refine kc_below hb3 ?_ | (refine kc_new ?_ ?_; (· first | rfl | simp only [sZ]); (· first | rfl | simp)) | (refine kc_set0 ?_ ?_; (· first | rfl | simp)) | exact ct_of (by assumption) | refine ct_drew ?_ | refine ct_drewN _ ?_ | refine ct_below hb3 ?_ | (refine ct_new ?_ ?_; (· first | rfl | simp only [sZ]); (· first | rfl | simp)) | refine ct_set _ _ ?_ | refine ct_alloc _ ?_ | (refine kc_set ?_ ?_; (focus first | (intro hx; injection hx; omega) | (simp; done))) | refine kc_alloc _ ?_))); have hB : Below w.heap.size w w3 := (by (with_reducible repeat (first | exact hB | exact bR | refine bA ?_ | refine bD ?_ | refine bN ?_ | (refine bS ?_ ?_; (· dsimp only; omega)) | refine bl_call ?_ hb3)))))
    go_wp2_with fail
    clear hc2 hfd
    go_loopg [4, 5] n (fun gh r t wr => ∃ (k : Nat) (z : Int) (v : Nat), z + 1 = k ∧ r = .int .i64 v ∧ t = .int .i64 z ∧ k ≤ n ∧ k ≤ gh ∧ Hid (v = val (xs.drop k)) ∧ Hid (Below w.heap.size w wr) ∧ Hid (wr.cell? ⟨w.heap.size, 0, none⟩ = some (.bool s) ∧ wr.cell? ⟨w.heap.size, 1, none⟩ = some (.slice a n c)))
    case atStart => exact ⟨n, (n : Int) - 1, 0, by omega, rfl, rfl, Nat.le_refl _, Nat.le_refl _, by rw [HXL.out, List.drop_length]; rfl, hB, r0, r1⟩
    case round =>
      clear hB r0 r1
      obtain ⟨k, z, v, hzk, rfl, rfl, hkn, hgh, hI, HB, HR⟩ := hrel
      have hB := HB.out
      have r0 := HR.out.1
      have r1 := HR.out.2
      by_cases h0 : 1 ≤ k
      · obtain ⟨i, rfl⟩ : ∃ i, k = i + 1 := ⟨k - 1, by omega⟩
        obtain rfl : z = (i : Int) := by omega
        have hin : (i : Int) < (n : Int) := by omega
        have hst := small_step hI.out
        have hle := val_drop_le xs i
        have hv := HV.out
        rcases (HX.out wr hB).2.2 with h | ⟨g, o, _, rfl, hX⟩
        · exfalso
          have := HXL.out
          rw [h] at this
          simp at this
          omega
        · have c1 := hX i (by omega)
          have hd := OX.out.1.getD i
          clear hX
          generalize xs.getD i 0 = d at c1 hd hst
          obtain ⟨v', hv'⟩ : ∃ v', v' = v * 10000 + d := ⟨_, rfl⟩
          have HN : Hid (v' = val (xs.drop i)) := hv'.trans hst
          have z1 : (v : Int) * 10000 + (d : Int) = (v' : Int) := by omega
          have z2 : (v : Int) * 10000 ≤ 4611686018427387904 := by omega
          have z3 : (v' : Int) ≤ 4611686018427387904 := by omega
          clear hst hle hv hv' hI hzk
          go_wp2_with fail
          go_roundg i
          case measure => omega
          case rel => exact ⟨i, (i : Int) - 1, v', by omega, rfl, rfl, by omega, Nat.le_refl _, HN, HB, HR⟩
      · obtain rfl : k = 0 := by omega
        obtain rfl : z = -1 := by omega
        have hv : v = val xs := hI.out
        have hv2 : (v : Int) ≤ 4611686018427387904 := by have := HV.out; omega
        have HE : Hid (V = if s = true then -(v : Int) else (v : Int)) := by rw [hv]; exact HVE.out
        clear hI hv
        cases s
        · obtain rfl : V = (v : Int) := HE.out
          go_wp2_with fail
          exact bodyPost_ret (v := .tuple #[.int .i64 (v : Int), .bool true]) (by simp [results, Try.results75, go_sem]) rfl ⟨rfl, hB⟩
        · obtain rfl : V = -(v : Int) := HE.out
          go_wp2_with fail
          exact bodyPost_ret (v := .tuple #[.int .i64 (-(v : Int)), .bool true]) (by simp [results, Try.results75, go_sem]) rfl ⟨rfl, hB⟩
  · have hc : 0 < cz := by omega
    rw [if_neg h]
    clear hz h
    have hfd := field_M
    go_enter Try.func75, Try.ntmps75
    go_wp2_with fail
    go_region_held3 (fun w' => w'.cell? ⟨w.heap.size, 0, none⟩ = some (.bool s) ∧ w'.cell? ⟨w.heap.size, 1, none⟩ = some (.slice a n c)) (((try dsimp only); (repeat' apply And.intro)) <;> (with_reducible repeat (first | exact r0 | exact r1 | refine kc_drew ?_ | refine kc_drewN _ ?_ | refine kc_below hb2 ?_ | (refine kc_new ?_ ?_; (· first | rfl | simp only [sZ]); (· first | rfl | simp)) | (refine kc_set0 ?_ ?_; (· first | rfl | simp)) | exact ct_of (by assumption) | refine ct_drew ?_ | refine ct_drewN _ ?_ | refine ct_below hb2 ?_ | (refine ct_new ?_ ?_; (· first | rfl | simp only [sZ]); (· first | rfl | simp)) | refine ct_set _ _ ?_ | refine ct_alloc _ ?_ | (refine kc_set ?_ ?_; (focus first | (intro hx; injection hx; omega) | (simp; done))) | refine kc_alloc _ ?_))) (first
      | (go_at_call 57; refine (intZ_any 4611686018427387904 _ (by omega) (by omega)).mono ?_; rintro v w2 ⟨s2, a2, n2, c2, rfl, H2, hb2⟩; obtain rfl := H2.out.plus (by omega); have hn2 : n2 ≤ 5 := (H2.out.len (by decide)); have ⟨r0, r1⟩ : w2.cell? ⟨w.heap.size, 0, none⟩ = some (.bool s) ∧ w2.cell? ⟨w.heap.size, 1, none⟩ = some (.slice a n c) := (by and_intros <;> (with_reducible repeat (first | exact r0 | exact r1 | refine kc_drew ?_ | refine kc_drewN _ ?_ | refine kc_below hb2 ?_ | (refine kc_new ?_ ?_; (· first | rfl | simp only [sZ]); (· first | rfl | simp)) | (refine kc_set0 ?_ ?_; (· first | rfl | simp)) | exact ct_of (by assumption) | refine ct_drew ?_ | refine ct_drewN _ ?_ | refine ct_below hb2 ?_ | (refine ct_new ?_ ?_; (· first | rfl | simp only [sZ]); (· first | rfl | simp)) | refine ct_set _ _ ?_ | refine ct_alloc _ ?_ | (refine kc_set ?_ ?_; (focus first | (intro hx; injection hx; omega) | (simp; done))) | refine kc_alloc _ ?_))); have hB : Below w.heap.size w w2 := (by (with_reducible repeat (first | exact bR | refine bA ?_ | refine bD ?_ | refine bN ?_ | (refine bS ?_ ?_; (· dsimp only; omega)) | refine bl_call ?_ hb2))))
      | (go_at_call 99; refine (sizesZ_any _ _ _ _ _ _ _ _ _ (HZ.out _ (by (with_reducible repeat (first | exact hB | exact bR | refine bA ?_ | refine bD ?_ | refine bN ?_ | (refine bS ?_ ?_; (· dsimp only; omega)))))) (H2.out.below (by (with_reducible repeat (first | exact bR | refine bA ?_ | refine bD ?_ | refine bN ?_ | (refine bS ?_ ?_; (· dsimp only; omega)))))) (by omega) (by omega)).mono ?_; rw [HC.out]; rintro v w3 ⟨rfl, hk3⟩; have hb3 := hk3.below; have ⟨r0, r1⟩ : w3.cell? ⟨w.heap.size, 0, none⟩ = some (.bool s) ∧ w3.cell? ⟨w.heap.size, 1, none⟩ = some (.slice a n c) := (by and_intros <;> (with_reducible repeat (first | exact r0 | exact r1 | refine kc_drew ?_ | refine kc_drewN _ ?_ | refine kc_below hb3 ?_ | (refine kc_new ?_ ?_; (· first | rfl | simp only [sZ]); (· first | rfl | simp)) | (refine kc_set0 ?_ ?_; (· first | rfl | simp)) | exact ct_of (by assumption) | refine ct_drew ?_ | refine ct_drewN _ ?_ | refine ct_below hb3 ?_ | (refine ct_new ?_ ?_; (· first | rfl | simp only [sZ]); (· first | rfl | simp)) | refine ct_set _ _ ?_ | refine ct_alloc _ ?_ | (refine kc_set ?_ ?_; (focus first | (intro hx; injection hx; omega) | (simp; done))) | refine kc_alloc _ ?_))); have hB : Below w.heap.size w w3 := (by (with_reducible repeat (first | exact hB | exact bR | refine bA ?_ | refine bD ?_ | refine bN ?_ | (refine bS ?_ ?_; (· dsimp only; omega)) | refine bl_call ?_ hb3)))))
    go_wp2_with fail
    exact bodyPost_ret (v := .tuple #[.int .i64 0, .bool false]) (by simp [results, Try.results75, go_sem]) rfl ⟨rfl, hB⟩

theorem smV_ok {z : Int} (h : z.natAbs ≤ 4611686018427387904) : smV z = .tuple #[.int .i64 z, .bool true] := if_pos h
theorem smV_big {z : Int} (h : ¬ z.natAbs ≤ 4611686018427387904) : smV z = .tuple #[.int .i64 0, .bool false] := if_neg h
theorem smallZ_any (s : Bool) (a : Option Addr) (n c : Nat) (z : Int) (w : World) (p : Nat) (hx : Zat p w s a n c z) (hn : n ≤ 999999) :
    Calls Try.prog 75 #[.agg #[.bool s, .slice a n c]] w fun v w' => v = .returned (smV z) ∧ Below w.heap.size w w' := by
  obtain ⟨xs, h1, h2, h3, h4⟩ := zat_val hx
  refine (small_walk s a n c xs w h1 h2 hn).mono ?_
  rintro v w' ⟨rfl, hb⟩
  refine ⟨?_, hb⟩
  unfold smV
  cases s
  · rw [h3 rfl]
    simp
  · rw [h4 rfl]
    simp
end Go.Proofs.Ytoenimkgagndnaa
