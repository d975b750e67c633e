/- Play of a chronograph. -/
import Derived.Test.YtmcndbfnjpkelaaDv
namespace Go.Proofs.Ytmcndbfnjpkelaa
set_option linter.unusedVariables false
set_option linter.unusedSimpArgs false
open Go.RowKit Go.Lib

/-- What is shown behind the first k pushes. -/
def stC (xs : List Pu) : Nat → Chr
  | 0 => ⟨false, false, 0, 0⟩
  | k + 1 => ((stC xs k).lat ((xs.getD k (0, 0)).1 - lastT xs k)).psh (xs.getD k (0, 0)).2
theorem lastT_bd {xs : List Pu} {k : Nat} (h : ∀ j, j < k → goodP xs j) : 0 ≤ lastT xs k ∧ lastT xs k ≤ 1000000000 := by
  unfold lastT
  by_cases h0 : k = 0
  · rw [if_pos h0]; omega
  · rw [if_neg h0]
    have := (h (k - 1) (by omega)).1
    omega
theorem lastT_succ (xs : List Pu) (k : Nat) : lastT xs (k + 1) = (xs.getD k (0, 0)).1 := by simp [lastT]
theorem stC_bd {xs : List Pu} : ∀ {k : Nat}, (∀ j, j < k → goodP xs j) → 0 ≤ (stC xs k).a ∧ (stC xs k).a ≤ lastT xs k
  | 0, _ => by simp [stC, lastT]
  | k + 1, h => by
    have ih := stC_bd (xs := xs) (k := k) fun j hj => h j (by omega)
    have g := h k (by omega)
    have lb := lastT_bd (xs := xs) (k := k) fun j hj => h j (by omega)
    have hl := g.2.1
    rw [lastT_succ]
    have e : stC xs (k + 1) = ((stC xs k).lat ((xs.getD k (0, 0)).1 - lastT xs k)).psh (xs.getD k (0, 0)).2 := rfl
    rw [e]
    have h1 : 0 ≤ ((stC xs k).lat ((xs.getD k (0, 0)).1 - lastT xs k)).a ∧ ((stC xs k).lat ((xs.getD k (0, 0)).1 - lastT xs k)).a ≤ (xs.getD k (0, 0)).1 := by
      unfold Chr.lat Chr.fol
      simp only
      split <;> omega
    generalize (stC xs k).lat ((xs.getD k (0, 0)).1 - lastT xs k) = c at *
    generalize (xs.getD k (0, 0)).2 = b at *
    clear e
    unfold Chr.psh Chr.fol
    simp only
    split
    · exact h1
    · split
      · simp only; omega
      · exact h1

/-- The world in a round of Play: the result's box, and c's. -/
def PlayR (w : World) (C : Nat) (r h : Bool) (a s : Int) (wr : World) : Prop :=
  Gro w wr ∧ w.heap.size < C ∧ C < wr.heap.size ∧ wr.cell? ⟨w.heap.size, 0, none⟩ = some (.bool false) ∧ wr.cell? ⟨w.heap.size, 1, none⟩ = some (.bool false) ∧ wr.cell? ⟨w.heap.size, 2, none⟩ = some (.int .i64 0) ∧ wr.cell? ⟨w.heap.size, 3, none⟩ = some (.int .i64 0) ∧ wr.frozen? ⟨w.heap.size, 0, none⟩ = false ∧ wr.frozen? ⟨w.heap.size, 1, none⟩ = false ∧ wr.frozen? ⟨w.heap.size, 2, none⟩ = false ∧ wr.frozen? ⟨w.heap.size, 3, none⟩ = false ∧ wr.cell? ⟨C, 0, none⟩ = some (.bool r) ∧ wr.cell? ⟨C, 1, none⟩ = some (.bool h) ∧ wr.cell? ⟨C, 2, none⟩ = some (.int .i64 a) ∧ wr.cell? ⟨C, 3, none⟩ = some (.int .i64 s) ∧ wr.frozen? ⟨C, 0, none⟩ = false ∧ wr.frozen? ⟨C, 1, none⟩ = false ∧ wr.frozen? ⟨C, 2, none⟩ = false ∧ wr.frozen? ⟨C, 3, none⟩ = false
set_option maxHeartbeats 4000000 in
set_option maxRecDepth 100000 in
theorem play_at (N g o cap n : Nat) (xs : List Pu) (e : Int) (w : World) (hx : Hid (xs.length = N)) (hN : N ≤ 1000) (hc : N ≤ cap) (HV : Hid (PsAt w g o xs)) (HP : Hid (VP xs)) (hn : n ≤ N)
    (Hlo : Hid (∀ j, j < n → (xs.getD j (0, 0)).1 ≤ e)) (Hhi : Hid (n = N ∨ e < (xs.getD n (0, 0)).1)) (e0 : 0 ≤ e) (e1 : e ≤ 1000000000) :
    Calls Try.prog 49 #[.slice (some ⟨g, o, none⟩) N cap, .int .i64 e] w fun v w' => v = .returned (.tuple #[((stC xs n).lat (e - lastT xs n)).val, .int .i64 0]) ∧ Gro w w' := by
  have HT := fun W => Lib.hid (validTime_any e W)
  rw [decide_eq_true (show 0 ≤ e ∧ e ≤ 1000000000 from ⟨e0, e1⟩)] at HT
  have HVP := fun W (h : PsAt W g o xs) => Lib.hid (validPushes_at N g o cap xs W hx (by omega) hc (Lib.hid h))
  rw [decide_eq_true HP.out] at HVP
  have HG : Hid (∀ j, j < N → goodP xs j) := fun j hj => HP.out.2 j (by rw [hx.out]; exact hj)
  have HLN : Hid (lastT xs n ≤ e) := by
    show lastT xs n ≤ e
    unfold lastT
    by_cases h0 : n = 0
    · rw [if_pos h0]; exact e0
    · rw [if_neg h0]; exact Hlo.out (n - 1) (by omega)
  go_enter Try.func49, Try.ntmps49
  go_wp2_with (first | (go_at_call 77; ((with_reducible refine (HVP _ (HV.out.below (by (with_reducible repeat (first | exact Below.refl _ _ | refine bl_alloc ?_ _ | refine bl_drew ?_ | refine bl_drewN ?_ _ | (refine bl_set ?_ ?_ _; (focus dsimp only; omega))))))).out.mono ?_); rintro v w1 ⟨rfl, hk1⟩; have hb1 := hk1.below; have ⟨r0, r1, r2, r3⟩ : w1.cell? ⟨w.heap.size, 0, none⟩ = some (.bool false) ∧ w1.cell? ⟨w.heap.size, 1, none⟩ = some (.bool false) ∧ w1.cell? ⟨w.heap.size, 2, none⟩ = some (.int .i64 0) ∧ w1.cell? ⟨w.heap.size, 3, none⟩ = some (.int .i64 0) := (by and_intros <;> (with_reducible repeat (first | refine kc_drew ?_ | refine kc_drewN _ ?_ | refine kc_below hb1 ?_ | (refine kc_new ?_ ?_; (focus first | rfl | (simp only [World.size_alloc, World.size_setCell, World.size_drew, size_drewN]; done)); (focus first | rfl | (simp; done))) | (refine kc_set0 ?_ ?_; (focus first | rfl | (simp; done))) | exact ct_of (by assumption) | refine ct_drew ?_ | refine ct_drewN _ ?_ | refine ct_below hb1 ?_ | (refine ct_new ?_ ?_; (focus first | rfl | (simp only [World.size_alloc, World.size_setCell, World.size_drew, size_drewN]; done)); (focus first | rfl | (simp; done))) | refine ct_set _ _ ?_ | refine ct_alloc _ ?_ | (refine kc_set ?_ ?_; (focus first | (intro hx; injection hx; omega) | (simp; done))) | refine kc_alloc _ ?_))); have ⟨r4, r5, r6, r7⟩ : w1.frozen? ⟨w.heap.size, 0, none⟩ = false ∧ w1.frozen? ⟨w.heap.size, 1, none⟩ = false ∧ w1.frozen? ⟨w.heap.size, 2, none⟩ = false ∧ w1.frozen? ⟨w.heap.size, 3, none⟩ = false := (by and_intros <;> (with_reducible repeat (first | refine kf_drew ?_ | refine kf_drewN _ ?_ | (refine kf_new ?_ _; (focus first | rfl | (simp only [World.size_alloc, World.size_setCell, World.size_drew, size_drewN]; done))) | refine kf_set _ _ ?_ | (refine kf_below hb1 ?_ ?_; (focus simp only [World.size_alloc, World.size_setCell, World.size_drew, size_drewN]; omega)) | (refine kf_alloc _ ?_ ?_; (focus first | (simp only [World.size_alloc, World.size_setCell, World.size_drew, size_drewN]; omega) | (dsimp only; omega)))))); have hz1 := hb1.size; (try simp only [World.size_alloc, World.size_setCell, World.size_drew, size_drewN] at hz1); have hG : Gro w w1 := (by (with_reducible repeat (first | exact gro_refl _ | refine gro_alloc ?_ _ | refine gro_drew ?_ | refine gro_drewN ?_ _ | (refine gro_set ?_ ?_ _; (focus first | omega | (dsimp only; omega))) | refine gro_call ?_ hk1))); have hg1 : w.heap.size < w1.heap.size := (by omega))) | (go_at_call 78; ((with_reducible refine (HT _).out.mono ?_); rintro v w' ⟨rfl, rfl⟩)))
  obtain ⟨C, hC⟩ : ∃ C, C = w1.heap.size := ⟨_, rfl⟩
  rw [← hC]
  go_loopw [7, 22] (fun x t wr => ∃ (k : Nat) (r h : Bool) (a s : Int), k ≤ n ∧ x = .int .i64 (lastT xs k) ∧ t = .int .i64 k ∧ Hid (stC xs k = ⟨r, h, a, s⟩) ∧ Hid (PlayR w C r h a s wr)) (fun _ t _ => n - (intOf t).toNat)
  case atStart =>
    refine ⟨0, false, false, 0, 0, Nat.zero_le _, rfl, rfl, Lib.hid rfl, Lib.hid ⟨by (with_reducible repeat (first | exact hG | exact gro_refl _ | refine gro_alloc ?_ _ | refine gro_drew ?_ | refine gro_drewN ?_ _ | (refine gro_set ?_ ?_ _; (focus first | omega | (dsimp only; omega))))), by omega, by simp only [World.size_alloc, World.size_setCell]; omega, ?_⟩⟩
    subst hC
    and_intros
    all_goals first | ((with_reducible repeat (first | exact r0 | exact r1 | exact r2 | exact r3 | exact r4 | exact r5 | exact r6 | exact r7 | exact r8 | exact r9 | exact r10 | exact r11 | exact r12 | exact r13 | exact r14 | exact r15 | refine kc_drew ?_ | refine kc_drewN _ ?_ | (refine kc_new ?_ ?_; (focus first | rfl | (simp only [World.size_alloc, World.size_setCell, World.size_drew, size_drewN]; done)); (focus first | rfl | (simp; done))) | (refine kc_set0 ?_ ?_; (focus first | rfl | (simp; done))) | exact ct_of (by assumption) | refine ct_drew ?_ | refine ct_drewN _ ?_ | (refine ct_new ?_ ?_; (focus first | rfl | (simp only [World.size_alloc, World.size_setCell, World.size_drew, size_drewN]; done)); (focus first | rfl | (simp; done))) | refine ct_set _ _ ?_ | refine ct_alloc _ ?_ | (refine kc_set ?_ ?_; (focus first | (intro hx; injection hx; omega) | (simp; done))) | refine kc_alloc _ ?_)); done) | ((with_reducible repeat (first | exact r0 | exact r1 | exact r2 | exact r3 | exact r4 | exact r5 | exact r6 | exact r7 | exact r8 | exact r9 | exact r10 | exact r11 | exact r12 | exact r13 | exact r14 | exact r15 | refine kf_drew ?_ | refine kf_drewN _ ?_ | (refine kf_new ?_ _; (focus first | rfl | (simp only [World.size_alloc, World.size_setCell, World.size_drew, size_drewN]; done))) | refine kf_set _ _ ?_ | (refine kf_alloc _ ?_ ?_; (focus first | (simp only [World.size_alloc, World.size_setCell, World.size_drew, size_drewN]; omega) | (dsimp only; omega))))); done)
  case round =>
    clear hC hg1 hz1 hG hb1 hk1 r0 r1 r2 r3 r4 r5 r6 r7
    obtain ⟨k, r, h, a, s, hk, rfl, rfl, hS, hI⟩ := hrel
    obtain ⟨hG, hBC, hCz, r0, r1, r2, r3, r4, r5, r6, r7, r8, r9, r10, r11, r12, r13, r14, r15⟩ := hI.out
    clear hI
    have hBd := stC_bd (xs := xs) (k := k) fun j hj => HG.out j (by omega)
    have hLb := lastT_bd (xs := xs) (k := k) fun j hj => HG.out j (by omega)
    rw [hS.out] at hBd
    simp only at hBd
    have k0 : (0 : Int) ≤ (k : Int) := by omega
    by_cases hlt : k < n
    · have kN : (k : Int) < (N : Int) := by omega
      have c1 := kc_below hG.below (HV.out k (by rw [hx.out]; omega)).1
      have c2 := kc_below hG.below (HV.out k (by rw [hx.out]; omega)).2
      have hgd := HG.out k (by omega)
      have hle := Hlo.out k hlt
      have HNx : Hid (stC xs (k + 1) = ((stC xs k).lat ((xs.getD k (0, 0)).1 - lastT xs k)).psh (xs.getD k (0, 0)).2) := Lib.hid rfl
      have HLs := Lib.hid (lastT_succ xs k)
      unfold goodP at hgd
      generalize (xs.getD k (0, 0)).1 = t at *
      generalize (xs.getD k (0, 0)).2 = b at *
      generalize lastT xs k = la at *
      obtain ⟨⟨t0, t1⟩, hla, b1, b3⟩ := hgd
      obtain ⟨bd1, bd2⟩ := hBd
      obtain ⟨lb1, lb2⟩ := hLb
      have HLt := fun W => Lib.hid (later_any r h a s (t - la) W (by omega) (by omega))
      have wA : IntKind.i64.wrap (t - la) = t - la := IntWalk.i64_in _ (by omega)
      obtain ⟨c', hc'⟩ : ∃ c', c' = Chr.lat ⟨r, h, a, s⟩ (t - la) := ⟨_, rfl⟩
      rw [← hc'] at HLt
      rw [hS.out, ← hc'] at HNx
      obtain ⟨y1, h1, a1, s1⟩ := c'
      have HPs := fun W => Lib.hid (pushed_any y1 h1 a1 s1 b W (by omega))
      obtain ⟨c2', hc2⟩ : ∃ c2, c2 = Chr.psh ⟨y1, h1, a1, s1⟩ b := ⟨_, rfl⟩
      rw [← hc2] at HPs HNx
      obtain ⟨y2, h2, a2, s2⟩ := c2'
      simp only [Chr.val] at HLt HPs
      clear hc' hc2 hS
      go_wp2_with fail
      go_region_with (first | (go_at_call 80; ((with_reducible refine (HLt _).out.mono ?_); rintro v w2 ⟨rfl, hk2⟩; have hb2 := hk2.below; have ⟨r0, r1, r2, r3, r8, r9, r10, r11, r16, r17⟩ : w2.cell? ⟨w.heap.size, 0, none⟩ = some (.bool false) ∧ w2.cell? ⟨w.heap.size, 1, none⟩ = some (.bool false) ∧ w2.cell? ⟨w.heap.size, 2, none⟩ = some (.int .i64 0) ∧ w2.cell? ⟨w.heap.size, 3, none⟩ = some (.int .i64 0) ∧ w2.cell? ⟨C, 0, none⟩ = some (.bool r) ∧ w2.cell? ⟨C, 1, none⟩ = some (.bool h) ∧ w2.cell? ⟨C, 2, none⟩ = some (.int .i64 a) ∧ w2.cell? ⟨C, 3, none⟩ = some (.int .i64 s) ∧ w2.cell? ⟨wr.heap.size, 0, none⟩ = some (.int .i64 t) ∧ w2.cell? ⟨wr.heap.size, 1, none⟩ = some (.int .i64 b) := (by and_intros <;> (with_reducible repeat (first | exact r0 | exact r1 | exact r2 | exact r3 | exact r4 | exact r5 | exact r6 | exact r7 | exact r8 | exact r9 | exact r10 | exact r11 | exact r12 | exact r13 | exact r14 | exact r15 | exact r16 | exact r17 | refine kc_drew ?_ | refine kc_drewN _ ?_ | refine kc_below hb2 ?_ | (refine kc_new ?_ ?_; (focus first | rfl | (simp only [World.size_alloc, World.size_setCell, World.size_drew, size_drewN]; done)); (focus first | rfl | (simp; done))) | (refine kc_set0 ?_ ?_; (focus first | rfl | (simp; done))) | exact ct_of (by assumption) | refine ct_drew ?_ | refine ct_drewN _ ?_ | refine ct_below hb2 ?_ | (refine ct_new ?_ ?_; (focus first | rfl | (simp only [World.size_alloc, World.size_setCell, World.size_drew, size_drewN]; done)); (focus first | rfl | (simp; done))) | refine ct_set _ _ ?_ | refine ct_alloc _ ?_ | (refine kc_set ?_ ?_; (focus first | (intro hx; injection hx; omega) | (simp; done))) | refine kc_alloc _ ?_))); have ⟨r4, r5, r6, r7, r12, r13, r14, r15⟩ : w2.frozen? ⟨w.heap.size, 0, none⟩ = false ∧ w2.frozen? ⟨w.heap.size, 1, none⟩ = false ∧ w2.frozen? ⟨w.heap.size, 2, none⟩ = false ∧ w2.frozen? ⟨w.heap.size, 3, none⟩ = false ∧ w2.frozen? ⟨C, 0, none⟩ = false ∧ w2.frozen? ⟨C, 1, none⟩ = false ∧ w2.frozen? ⟨C, 2, none⟩ = false ∧ w2.frozen? ⟨C, 3, none⟩ = false := (by and_intros <;> (with_reducible repeat (first | exact r0 | exact r1 | exact r2 | exact r3 | exact r4 | exact r5 | exact r6 | exact r7 | exact r8 | exact r9 | exact r10 | exact r11 | exact r12 | exact r13 | exact r14 | exact r15 | exact r16 | exact r17 | refine kf_drew ?_ | refine kf_drewN _ ?_ | (refine kf_new ?_ _; (focus first | rfl | (simp only [World.size_alloc, World.size_setCell, World.size_drew, size_drewN]; done))) | refine kf_set _ _ ?_ | (refine kf_below hb2 ?_ ?_; (focus simp only [World.size_alloc, World.size_setCell, World.size_drew, size_drewN]; omega)) | (refine kf_alloc _ ?_ ?_; (focus first | (simp only [World.size_alloc, World.size_setCell, World.size_drew, size_drewN]; omega) | (dsimp only; omega)))))); have hz2 := hb2.size; (try simp only [World.size_alloc, World.size_setCell, World.size_drew, size_drewN] at hz2); have g2 : wr.heap.size < w2.heap.size := (by omega); have hG : Gro w w2 := (by (with_reducible repeat (first | exact hG | exact gro_refl _ | refine gro_alloc ?_ _ | refine gro_drew ?_ | refine gro_drewN ?_ _ | (refine gro_set ?_ ?_ _; (focus first | omega | (dsimp only; omega))) | refine gro_call ?_ hk2))))) | (go_at_call 79; ((with_reducible refine (HPs _).out.mono ?_); rintro v w3 ⟨rfl, hk3⟩; have hb3 := hk3.below; have ⟨r0, r1, r2, r3, r8, r9, r10, r11, r16, r17⟩ : w3.cell? ⟨w.heap.size, 0, none⟩ = some (.bool false) ∧ w3.cell? ⟨w.heap.size, 1, none⟩ = some (.bool false) ∧ w3.cell? ⟨w.heap.size, 2, none⟩ = some (.int .i64 0) ∧ w3.cell? ⟨w.heap.size, 3, none⟩ = some (.int .i64 0) ∧ w3.cell? ⟨C, 0, none⟩ = some (.bool r) ∧ w3.cell? ⟨C, 1, none⟩ = some (.bool h) ∧ w3.cell? ⟨C, 2, none⟩ = some (.int .i64 a) ∧ w3.cell? ⟨C, 3, none⟩ = some (.int .i64 s) ∧ w3.cell? ⟨wr.heap.size, 0, none⟩ = some (.int .i64 t) ∧ w3.cell? ⟨wr.heap.size, 1, none⟩ = some (.int .i64 b) := (by and_intros <;> (with_reducible repeat (first | exact r0 | exact r1 | exact r2 | exact r3 | exact r4 | exact r5 | exact r6 | exact r7 | exact r8 | exact r9 | exact r10 | exact r11 | exact r12 | exact r13 | exact r14 | exact r15 | exact r16 | exact r17 | refine kc_drew ?_ | refine kc_drewN _ ?_ | refine kc_below hb3 ?_ | (refine kc_new ?_ ?_; (focus first | rfl | (simp only [World.size_alloc, World.size_setCell, World.size_drew, size_drewN]; done)); (focus first | rfl | (simp; done))) | (refine kc_set0 ?_ ?_; (focus first | rfl | (simp; done))) | exact ct_of (by assumption) | refine ct_drew ?_ | refine ct_drewN _ ?_ | refine ct_below hb3 ?_ | (refine ct_new ?_ ?_; (focus first | rfl | (simp only [World.size_alloc, World.size_setCell, World.size_drew, size_drewN]; done)); (focus first | rfl | (simp; done))) | refine ct_set _ _ ?_ | refine ct_alloc _ ?_ | (refine kc_set ?_ ?_; (focus first | (intro hx; injection hx; omega) | (simp; done))) | refine kc_alloc _ ?_))); have ⟨r4, r5, r6, r7, r12, r13, r14, r15⟩ : w3.frozen? ⟨w.heap.size, 0, none⟩ = false ∧ w3.frozen? ⟨w.heap.size, 1, none⟩ = false ∧ w3.frozen? ⟨w.heap.size, 2, none⟩ = false ∧ w3.frozen? ⟨w.heap.size, 3, none⟩ = false ∧ w3.frozen? ⟨C, 0, none⟩ = false ∧ w3.frozen? ⟨C, 1, none⟩ = false ∧ w3.frozen? ⟨C, 2, none⟩ = false ∧ w3.frozen? ⟨C, 3, none⟩ = false := (by and_intros <;> (with_reducible repeat (first | exact r0 | exact r1 | exact r2 | exact r3 | exact r4 | exact r5 | exact r6 | exact r7 | exact r8 | exact r9 | exact r10 | exact r11 | exact r12 | exact r13 | exact r14 | exact r15 | exact r16 | exact r17 | refine kf_drew ?_ | refine kf_drewN _ ?_ | (refine kf_new ?_ _; (focus first | rfl | (simp only [World.size_alloc, World.size_setCell, World.size_drew, size_drewN]; done))) | refine kf_set _ _ ?_ | (refine kf_below hb3 ?_ ?_; (focus simp only [World.size_alloc, World.size_setCell, World.size_drew, size_drewN]; omega)) | (refine kf_alloc _ ?_ ?_; (focus first | (simp only [World.size_alloc, World.size_setCell, World.size_drew, size_drewN]; omega) | (dsimp only; omega)))))); have hz3 := hb3.size; (try simp only [World.size_alloc, World.size_setCell, World.size_drew, size_drewN] at hz3); have g3 : wr.heap.size < w3.heap.size := (by omega); have hG : Gro w w3 := (by (with_reducible repeat (first | exact hG | exact gro_refl _ | refine gro_alloc ?_ _ | refine gro_drew ?_ | refine gro_drewN ?_ _ | (refine gro_set ?_ ?_ _; (focus first | omega | (dsimp only; omega))) | refine gro_call ?_ hk3))))))
      all_goals go_wp2_with fail
      all_goals go_roundw
      all_goals first | (exact ⟨k + 1, y2, h2, a2, s2, by omega, by rw [HLs.out], by go_num, HNx, Lib.hid ⟨by (with_reducible repeat (first | exact hG | exact gro_refl _ | refine gro_alloc ?_ _ | refine gro_drew ?_ | refine gro_drewN ?_ _ | (refine gro_set ?_ ?_ _; (focus first | omega | (dsimp only; omega))))), by omega, by (try simp only [World.size_alloc, World.size_setCell, World.size_drew, size_drewN]); omega, by and_intros <;> first | ((with_reducible repeat (first | exact r0 | exact r1 | exact r2 | exact r3 | exact r4 | exact r5 | exact r6 | exact r7 | exact r8 | exact r9 | exact r10 | exact r11 | exact r12 | exact r13 | exact r14 | exact r15 | exact r16 | exact r17 | refine kc_drew ?_ | refine kc_drewN _ ?_ | (refine kc_new ?_ ?_; (focus first | rfl | (simp only [World.size_alloc, World.size_setCell, World.size_drew, size_drewN]; done)); (focus first | rfl | (simp; done))) | (refine kc_set0 ?_ ?_; (focus first | rfl | (simp; done))) | exact ct_of (by assumption) | refine ct_drew ?_ | refine ct_drewN _ ?_ | (refine ct_new ?_ ?_; (focus first | rfl | (simp only [World.size_alloc, World.size_setCell, World.size_drew, size_drewN]; done)); (focus first | rfl | (simp; done))) | refine ct_set _ _ ?_ | refine ct_alloc _ ?_ | (refine kc_set ?_ ?_; (focus first | (intro hx; injection hx; omega) | (simp; done))) | refine kc_alloc _ ?_)); done) | ((with_reducible repeat (first | exact r0 | exact r1 | exact r2 | exact r3 | exact r4 | exact r5 | exact r6 | exact r7 | exact r8 | exact r9 | exact r10 | exact r11 | exact r12 | exact r13 | exact r14 | exact r15 | exact r16 | exact r17 | refine kf_drew ?_ | refine kf_drewN _ ?_ | (refine kf_new ?_ _; (focus first | rfl | (simp only [World.size_alloc, World.size_setCell, World.size_drew, size_drewN]; done))) | refine kf_set _ _ ?_ | (refine kf_alloc _ ?_ ?_; (focus first | (simp only [World.size_alloc, World.size_setCell, World.size_drew, size_drewN]; omega) | (dsimp only; omega))))); done)⟩⟩) | (simp [intOf]; omega)
    · obtain rfl : k = n := by omega
      have hle := HLN.out
      have HEn : Hid ((stC xs k).lat (e - lastT xs k) = Chr.lat ⟨r, h, a, s⟩ (e - lastT xs k)) := by rw [hS.out]; rfl
      generalize hla : lastT xs k = la at *
      have HLa := Lib.hid hla
      clear hla
      obtain ⟨bd1, bd2⟩ := hBd
      obtain ⟨lb1, lb2⟩ := hLb
      have HLe := fun W => Lib.hid (later_any r h a s (e - la) W (by omega) (by omega))
      have wA : IntKind.i64.wrap (e - la) = e - la := IntWalk.i64_in _ (by omega)
      obtain ⟨c', hc'⟩ : ∃ c', c' = Chr.lat ⟨r, h, a, s⟩ (e - la) := ⟨_, rfl⟩
      rw [← hc'] at HLe HEn
      obtain ⟨y1, h1, a1, s1⟩ := c'
      simp only [Chr.val] at HLe
      clear hc' hS
      by_cases hkN : k < N
      · have kN : (k : Int) < (N : Int) := by omega
        have c1 := kc_below hG.below (HV.out k (by rw [hx.out]; omega)).1
        have c2 := kc_below hG.below (HV.out k (by rw [hx.out]; omega)).2
        have hhi := Hhi.out
        generalize (xs.getD k (0, 0)).1 = t at *
        generalize (xs.getD k (0, 0)).2 = b at *
        have hte : e < t := by omega
        clear hhi
        go_wp2_with (go_at_call 80; ((with_reducible refine (HLe _).out.mono ?_); rintro v w4 ⟨rfl, hk4⟩; have hb4 := hk4.below; have ⟨r0, r1, r2, r3⟩ : w4.cell? ⟨w.heap.size, 0, none⟩ = some (.bool false) ∧ w4.cell? ⟨w.heap.size, 1, none⟩ = some (.bool false) ∧ w4.cell? ⟨w.heap.size, 2, none⟩ = some (.int .i64 0) ∧ w4.cell? ⟨w.heap.size, 3, none⟩ = some (.int .i64 0) := (by and_intros <;> (with_reducible repeat (first | exact r0 | exact r1 | exact r2 | exact r3 | exact r4 | exact r5 | exact r6 | exact r7 | exact r8 | exact r9 | exact r10 | exact r11 | exact r12 | exact r13 | exact r14 | exact r15 | refine kc_drew ?_ | refine kc_drewN _ ?_ | refine kc_below hb4 ?_ | (refine kc_new ?_ ?_; (focus first | rfl | (simp only [World.size_alloc, World.size_setCell, World.size_drew, size_drewN]; done)); (focus first | rfl | (simp; done))) | (refine kc_set0 ?_ ?_; (focus first | rfl | (simp; done))) | exact ct_of (by assumption) | refine ct_drew ?_ | refine ct_drewN _ ?_ | refine ct_below hb4 ?_ | (refine ct_new ?_ ?_; (focus first | rfl | (simp only [World.size_alloc, World.size_setCell, World.size_drew, size_drewN]; done)); (focus first | rfl | (simp; done))) | refine ct_set _ _ ?_ | refine ct_alloc _ ?_ | (refine kc_set ?_ ?_; (focus first | (intro hx; injection hx; omega) | (simp; done))) | refine kc_alloc _ ?_))); have ⟨r4, r5, r6, r7⟩ : w4.frozen? ⟨w.heap.size, 0, none⟩ = false ∧ w4.frozen? ⟨w.heap.size, 1, none⟩ = false ∧ w4.frozen? ⟨w.heap.size, 2, none⟩ = false ∧ w4.frozen? ⟨w.heap.size, 3, none⟩ = false := (by and_intros <;> (with_reducible repeat (first | exact r0 | exact r1 | exact r2 | exact r3 | exact r4 | exact r5 | exact r6 | exact r7 | exact r8 | exact r9 | exact r10 | exact r11 | exact r12 | exact r13 | exact r14 | exact r15 | refine kf_drew ?_ | refine kf_drewN _ ?_ | (refine kf_new ?_ _; (focus first | rfl | (simp only [World.size_alloc, World.size_setCell, World.size_drew, size_drewN]; done))) | refine kf_set _ _ ?_ | (refine kf_below hb4 ?_ ?_; (focus simp only [World.size_alloc, World.size_setCell, World.size_drew, size_drewN]; omega)) | (refine kf_alloc _ ?_ ?_; (focus first | (simp only [World.size_alloc, World.size_setCell, World.size_drew, size_drewN]; omega) | (dsimp only; omega)))))); have hz4 := hb4.size; (try simp only [World.size_alloc, World.size_setCell, World.size_drew, size_drewN] at hz4); have g4 : w.heap.size < w4.heap.size := (by omega); have hG : Gro w w4 := (by (with_reducible repeat (first | exact hG | exact gro_refl _ | refine gro_alloc ?_ _ | refine gro_drew ?_ | refine gro_drewN ?_ _ | (refine gro_set ?_ ?_ _; (focus first | omega | (dsimp only; omega))) | refine gro_call ?_ hk4)))))
        (try simp only [Exit.inBlock, Exit.then])
        refine bodyPost_ret (v := .tuple #[.agg #[.bool y1, .bool h1, .int .i64 a1, .int .i64 s1], .int .i64 0]) ?_ rfl ⟨by rw [HLa.out, HEn.out]; rfl, by (with_reducible repeat (first | exact hG | exact gro_refl _ | refine gro_alloc ?_ _ | refine gro_drew ?_ | refine gro_drewN ?_ _ | (refine gro_set ?_ ?_ _; (focus first | omega | (dsimp only; omega)))))⟩
        have hres : Try.f49.results = #[.cell 4 65, .tmp 5] := by kernel_rfl
        simp only [results, hres]
        go_simp
      · obtain rfl : k = N := by omega
        go_wp2_with (go_at_call 80; ((with_reducible refine (HLe _).out.mono ?_); rintro v w4 ⟨rfl, hk4⟩; have hb4 := hk4.below; have ⟨r0, r1, r2, r3⟩ : w4.cell? ⟨w.heap.size, 0, none⟩ = some (.bool false) ∧ w4.cell? ⟨w.heap.size, 1, none⟩ = some (.bool false) ∧ w4.cell? ⟨w.heap.size, 2, none⟩ = some (.int .i64 0) ∧ w4.cell? ⟨w.heap.size, 3, none⟩ = some (.int .i64 0) := (by and_intros <;> (with_reducible repeat (first | exact r0 | exact r1 | exact r2 | exact r3 | exact r4 | exact r5 | exact r6 | exact r7 | exact r8 | exact r9 | exact r10 | exact r11 | exact r12 | exact r13 | exact r14 | exact r15 | refine kc_drew ?_ | refine kc_drewN _ ?_ | refine kc_below hb4 ?_ | (refine kc_new ?_ ?_; (focus first | rfl | (simp only [World.size_alloc, World.size_setCell, World.size_drew, size_drewN]; done)); (focus first | rfl | (simp; done))) | (refine kc_set0 ?_ ?_; (focus first | rfl | (simp; done))) | exact ct_of (by assumption) | refine ct_drew ?_ | refine ct_drewN _ ?_ | refine ct_below hb4 ?_ | (refine ct_new ?_ ?_; (focus first | rfl | (simp only [World.size_alloc, World.size_setCell, World.size_drew, size_drewN]; done)); (focus first | rfl | (simp; done))) | refine ct_set _ _ ?_ | refine ct_alloc _ ?_ | (refine kc_set ?_ ?_; (focus first | (intro hx; injection hx; omega) | (simp; done))) | refine kc_alloc _ ?_))); have ⟨r4, r5, r6, r7⟩ : w4.frozen? ⟨w.heap.size, 0, none⟩ = false ∧ w4.frozen? ⟨w.heap.size, 1, none⟩ = false ∧ w4.frozen? ⟨w.heap.size, 2, none⟩ = false ∧ w4.frozen? ⟨w.heap.size, 3, none⟩ = false := (by and_intros <;> (with_reducible repeat (first | exact r0 | exact r1 | exact r2 | exact r3 | exact r4 | exact r5 | exact r6 | exact r7 | exact r8 | exact r9 | exact r10 | exact r11 | exact r12 | exact r13 | exact r14 | exact r15 | refine kf_drew ?_ | refine kf_drewN _ ?_ | (refine kf_new ?_ _; (focus first | rfl | (simp only [World.size_alloc, World.size_setCell, World.size_drew, size_drewN]; done))) | refine kf_set _ _ ?_ | (refine kf_below hb4 ?_ ?_; (focus simp only [World.size_alloc, World.size_setCell, World.size_drew, size_drewN]; omega)) | (refine kf_alloc _ ?_ ?_; (focus first | (simp only [World.size_alloc, World.size_setCell, World.size_drew, size_drewN]; omega) | (dsimp only; omega)))))); have hz4 := hb4.size; (try simp only [World.size_alloc, World.size_setCell, World.size_drew, size_drewN] at hz4); have g4 : w.heap.size < w4.heap.size := (by omega); have hG : Gro w w4 := (by (with_reducible repeat (first | exact hG | exact gro_refl _ | refine gro_alloc ?_ _ | refine gro_drew ?_ | refine gro_drewN ?_ _ | (refine gro_set ?_ ?_ _; (focus first | omega | (dsimp only; omega))) | refine gro_call ?_ hk4)))))
        (try simp only [Exit.inBlock, Exit.then])
        refine bodyPost_ret (v := .tuple #[.agg #[.bool y1, .bool h1, .int .i64 a1, .int .i64 s1], .int .i64 0]) ?_ rfl ⟨by rw [HLa.out, HEn.out]; rfl, by (with_reducible repeat (first | exact hG | exact gro_refl _ | refine gro_alloc ?_ _ | refine gro_drew ?_ | refine gro_drewN ?_ _ | (refine gro_set ?_ ?_ _; (focus first | omega | (dsimp only; omega)))))⟩
        have hres : Try.f49.results = #[.cell 4 65, .tmp 5] := by kernel_rfl
        simp only [results, hres]
        go_simp
end Go.Proofs.Ytmcndbfnjpkelaa
