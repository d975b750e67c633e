/- Texts of one proof, joined: AddZ, SubZ, MulM, MulZ, AppP, TimesZ, DivM. -/
import Derived.Test.YtoenimkgagndnaaGe
import Derived.Deep.OwnRows
import Derived.Deep.LoopGhost
/- Numbers of any size: Add, Sub, Cmp. -/
namespace Go.Proofs.Ytoenimkgagndnaa
set_option linter.unusedVariables false
set_option linter.unusedSimpArgs false
open Go.RowKit Go.Lib Go.Dig

theorem Zat.eq {base : Nat} {W : World} {s : Bool} {a : Option Addr} {n c : Nat} {z z' : Int} (h : Zat base W s a n c z) (e : z = z') : Zat base W s a n c z' := e ▸ h
/-- What a function returns that makes a number. -/
def ZP (w : World) (z : Int) (v : Ending) (w' : World) : Prop := ∃ s a n c, v = .returned (.agg #[.bool s, .slice a n c]) ∧ Hid (Zat w.heap.size w' s a n c z) ∧ Below w.heap.size w w'

set_option maxHeartbeats 4000000 in
set_option maxRecDepth 100000 in
theorem add_pp (a b : Option Addr) (n c m e : Nat) (x y : Int) (xs ys : List Nat) (w : World) {p1 p2 : Nat} (hx : RdD p1 w a n c xs) (hy : RdD p2 w b m e ys) (cx : Canon xs) (cy : Canon ys) (hsx : x = ((val xs : Nat) : Int)) (hsy : y = ((val ys : Nat) : Int)) (hn : n ≤ 999999) (hm : m ≤ 999999) :
    Calls Try.prog 111 #[.agg #[.bool false, .slice a n c], .agg #[.bool false, .slice b m e]] w (ZP w (x + y)) := by
  have HX : Hid (∀ W, Below w.heap.size w W → RdD p1 W a n c xs) := fun W hW => hx.below hW
  have HY : Hid (∀ W, Below w.heap.size w W → RdD p2 W b m e ys) := fun W hW => hy.below hW
  have CX := Lib.hid cx
  have CY := Lib.hid cy
  have HS : Hid (x = ((val xs : Nat) : Int) ∧ y = ((val ys : Nat) : Int)) := ⟨hsx, hsy⟩
  clear hx hy cx cy hsx hsy
  go_enter Try.func111, Try.ntmps111
  go_wp2_with fail
  go_region_held3 (fun w' => (w'.cell? ⟨w.heap.size, 0, none⟩ = some (.bool false) ∧ w'.cell? ⟨w.heap.size, 1, none⟩ = some (.slice a n c)) ∧ w'.cell? ⟨w.heap.size + 1, 0, none⟩ = some (.bool false) ∧ w'.cell? ⟨w.heap.size + 1, 1, none⟩ = some (.slice b m e)) (((try dsimp only); (repeat' apply And.intro)) <;> (with_reducible repeat (first | exact r0 | exact r1 | exact r2 | exact r3 | refine kc_drew ?_ | refine kc_drewN _ ?_ | refine kc_below hb2 ?_ | (refine kc_new ?_ ?_; (focus first | rfl | (simp only [World.size_alloc, World.size_setCell, World.size_drew, size_drewN]; done)); (focus first | rfl | (simp; done))) | (refine kc_set0 ?_ ?_; (focus first | rfl | (simp; done))) | exact ct_of (by assumption) | refine ct_drew ?_ | refine ct_drewN _ ?_ | refine ct_below hb2 ?_ | (refine ct_new ?_ ?_; (focus first | rfl | (simp only [World.size_alloc, World.size_setCell, World.size_drew, size_drewN]; done)); (focus first | rfl | (simp; done))) | refine ct_set _ _ ?_ | refine ct_alloc _ ?_ | (refine kc_set ?_ ?_; (focus first | (intro hx; injection hx; omega) | (simp; done))) | refine kc_alloc _ ?_))) (first | (go_at_call 126; refine (plus_any _ _ _ _ _ _ xs ys _ (HX.out _ (by (with_reducible repeat (first | exact hB | exact Below.refl _ _ | refine bl_alloc ?_ _ | refine bl_drew ?_ | refine bl_drewN ?_ _ | (refine bl_set ?_ ?_ _; (focus dsimp only; omega)) | refine bl_call ?_ hb2)))) (HY.out _ (by (with_reducible repeat (first | exact hB | exact Below.refl _ _ | refine bl_alloc ?_ _ | refine bl_drew ?_ | refine bl_drewN ?_ _ | (refine bl_set ?_ ?_ _; (focus dsimp only; omega)) | refine bl_call ?_ hb2)))) CX.out.1 CY.out.1 (by omega) (by omega)).mono ?_; rintro v w2 ⟨a2, n2, c2, zs, rfl, HV, hb2⟩; have ⟨r0, r1, r2, r3, r4, r5⟩ : w2.cell? ⟨w.heap.size, 0, none⟩ = some (.bool false) ∧ w2.cell? ⟨w.heap.size, 1, none⟩ = some (.slice a n c) ∧ w2.cell? ⟨w.heap.size + 1, 0, none⟩ = some (.bool false) ∧ w2.cell? ⟨w.heap.size + 1, 1, none⟩ = some (.slice b m e) ∧ w2.cell? ⟨w.heap.size + 1 + 1, 0, none⟩ = some (.bool false) ∧ w2.cell? ⟨w.heap.size + 1 + 1, 1, none⟩ = some (.slice none 0 0) := (by and_intros <;> (with_reducible repeat (first | exact r0 | exact r1 | exact r2 | exact r3 | exact r4 | exact r5 | exact r6 | exact r7 | refine kc_drew ?_ | refine kc_drewN _ ?_ | refine kc_below hb2 ?_ | (refine kc_new ?_ ?_; (focus first | rfl | (simp only [World.size_alloc, World.size_setCell, World.size_drew, size_drewN]; done)); (focus first | rfl | (simp; done))) | (refine kc_set0 ?_ ?_; (focus first | rfl | (simp; done))) | exact ct_of (by assumption) | refine ct_drew ?_ | refine ct_drewN _ ?_ | refine ct_below hb2 ?_ | (refine ct_new ?_ ?_; (focus first | rfl | (simp only [World.size_alloc, World.size_setCell, World.size_drew, size_drewN]; done)); (focus first | rfl | (simp; done))) | refine ct_set _ _ ?_ | refine ct_alloc _ ?_ | (refine kc_set ?_ ?_; (focus first | (intro hx; injection hx; omega) | (simp; done))) | refine kc_alloc _ ?_))); have ⟨r6, r7⟩ : w2.frozen? ⟨w.heap.size + 1 + 1, 0, none⟩ = false ∧ w2.frozen? ⟨w.heap.size + 1 + 1, 1, none⟩ = false := (by and_intros <;> (with_reducible repeat (first | exact r0 | exact r1 | exact r2 | exact r3 | exact r4 | exact r5 | exact r6 | exact r7 | refine kf_drew ?_ | refine kf_drewN _ ?_ | (refine kf_new ?_ _; (focus first | rfl | (simp only [World.size_alloc, World.size_setCell, World.size_drew, size_drewN]; done))) | refine kf_set _ _ ?_ | (refine kf_below hb2 ?_ ?_; (focus simp only [World.size_alloc, World.size_setCell, World.size_drew, size_drewN]; omega)) | (refine kf_alloc _ ?_ ?_; (focus first | (simp only [World.size_alloc, World.size_setCell, World.size_drew, size_drewN]; omega) | (dsimp only; omega)))))); have hB : Below w.heap.size w w2 := (by (with_reducible repeat (first | exact hB | exact Below.refl _ _ | refine bl_alloc ?_ _ | refine bl_drew ?_ | refine bl_drewN ?_ _ | (refine bl_set ?_ ?_ _; (focus dsimp only; omega)) | refine bl_call ?_ hb2))); have hz2 := hb2.size; (try simp only [World.size_alloc, World.size_drew, size_drewN] at hz2); have g2 : w.heap.size + 1 + 1 < w2.heap.size := (by omega)) | (go_at_call 96; refine (lean_any false _ _ _ zs _ (HV.out.1.below (by (with_reducible repeat (first | exact Below.refl _ _ | refine bl_alloc ?_ _ | refine bl_drew ?_ | refine bl_drewN ?_ _ | (refine bl_set ?_ ?_ _; (focus dsimp only; omega)))))) HV.out.2.1 (by have := HV.out.2.2.2; omega)).mono ?_; rintro v w2 ⟨s3, a3, n3, c3, rfl, HZ0, hb2⟩; have HZ : Hid (Zat (w.heap.size + 3) w2 s3 a3 n3 c3 _) := (HZ0.out.mono (by (try simp only [World.size_alloc, World.size_drew, size_drewN]); omega)); clear HZ0; have ⟨r0, r1, r2, r3, r4, r5⟩ : w2.cell? ⟨w.heap.size, 0, none⟩ = some (.bool false) ∧ w2.cell? ⟨w.heap.size, 1, none⟩ = some (.slice a n c) ∧ w2.cell? ⟨w.heap.size + 1, 0, none⟩ = some (.bool false) ∧ w2.cell? ⟨w.heap.size + 1, 1, none⟩ = some (.slice b m e) ∧ w2.cell? ⟨w.heap.size + 1 + 1, 0, none⟩ = some (.bool false) ∧ w2.cell? ⟨w.heap.size + 1 + 1, 1, none⟩ = some (.slice none 0 0) := (by and_intros <;> (with_reducible repeat (first | exact r0 | exact r1 | exact r2 | exact r3 | exact r4 | exact r5 | exact r6 | exact r7 | refine kc_drew ?_ | refine kc_drewN _ ?_ | refine kc_below hb2 ?_ | (refine kc_new ?_ ?_; (focus first | rfl | (simp only [World.size_alloc, World.size_setCell, World.size_drew, size_drewN]; done)); (focus first | rfl | (simp; done))) | (refine kc_set0 ?_ ?_; (focus first | rfl | (simp; done))) | exact ct_of (by assumption) | refine ct_drew ?_ | refine ct_drewN _ ?_ | refine ct_below hb2 ?_ | (refine ct_new ?_ ?_; (focus first | rfl | (simp only [World.size_alloc, World.size_setCell, World.size_drew, size_drewN]; done)); (focus first | rfl | (simp; done))) | refine ct_set _ _ ?_ | refine ct_alloc _ ?_ | (refine kc_set ?_ ?_; (focus first | (intro hx; injection hx; omega) | (simp; done))) | refine kc_alloc _ ?_))); have ⟨r6, r7⟩ : w2.frozen? ⟨w.heap.size + 1 + 1, 0, none⟩ = false ∧ w2.frozen? ⟨w.heap.size + 1 + 1, 1, none⟩ = false := (by and_intros <;> (with_reducible repeat (first | exact r0 | exact r1 | exact r2 | exact r3 | exact r4 | exact r5 | exact r6 | exact r7 | refine kf_drew ?_ | refine kf_drewN _ ?_ | (refine kf_new ?_ _; (focus first | rfl | (simp only [World.size_alloc, World.size_setCell, World.size_drew, size_drewN]; done))) | refine kf_set _ _ ?_ | (refine kf_below hb2 ?_ ?_; (focus simp only [World.size_alloc, World.size_setCell, World.size_drew, size_drewN]; omega)) | (refine kf_alloc _ ?_ ?_; (focus first | (simp only [World.size_alloc, World.size_setCell, World.size_drew, size_drewN]; omega) | (dsimp only; omega)))))); have hB : Below w.heap.size w w2 := (by (with_reducible repeat (first | exact hB | exact Below.refl _ _ | refine bl_alloc ?_ _ | refine bl_drew ?_ | refine bl_drewN ?_ _ | (refine bl_set ?_ ?_ _; (focus dsimp only; omega)) | refine bl_call ?_ hb2))); have hz2 := hb2.size; (try simp only [World.size_alloc, World.size_drew, size_drewN] at hz2); have g2 : w.heap.size + 1 + 1 < w2.heap.size := (by omega)))
  all_goals go_wp2_with fail
  all_goals
    exact bodyPost_ret (v := .agg #[.bool s3, .slice a3 n3 c3]) (by simp [results, Try.results111, go_sem, r4, r5, g2, Nat.ne_of_lt g2]) rfl
      ⟨s3, a3, n3, c3, rfl, by
        have e := HV.out.2.2.1
        have hz := ((HZ.out.set (b := w.heap.size + 1 + 1) (o := 0) (by omega) (.bool s3)).set (b := w.heap.size + 1 + 1) (o := 1) (by omega) (.slice a3 n3 c3)).mono (show w.heap.size ≤ w.heap.size + 3 by omega)
        exact hz.eq (by have := HS.out; rw [e]; simp; omega), bl_set (by simp only; omega) (bl_set (by simp only; omega) hB _) _⟩

set_option maxHeartbeats 4000000 in
set_option maxRecDepth 100000 in
theorem add_mm (a b : Option Addr) (n c m e : Nat) (x y : Int) (xs ys : List Nat) (w : World) {p1 p2 : Nat} (hx : RdD p1 w a n c xs) (hy : RdD p2 w b m e ys) (cx : Canon xs) (cy : Canon ys) (hsx : x = -((val xs : Nat) : Int)) (hsy : y = -((val ys : Nat) : Int)) (hn : n ≤ 999999) (hm : m ≤ 999999) :
    Calls Try.prog 111 #[.agg #[.bool true, .slice a n c], .agg #[.bool true, .slice b m e]] w (ZP w (x + y)) := by
  have HX : Hid (∀ W, Below w.heap.size w W → RdD p1 W a n c xs) := fun W hW => hx.below hW
  have HY : Hid (∀ W, Below w.heap.size w W → RdD p2 W b m e ys) := fun W hW => hy.below hW
  have CX := Lib.hid cx
  have CY := Lib.hid cy
  have HS : Hid (x = -((val xs : Nat) : Int) ∧ y = -((val ys : Nat) : Int)) := ⟨hsx, hsy⟩
  clear hx hy cx cy hsx hsy
  go_enter Try.func111, Try.ntmps111
  go_wp2_with fail
  go_region_held3 (fun w' => (w'.cell? ⟨w.heap.size, 0, none⟩ = some (.bool true) ∧ w'.cell? ⟨w.heap.size, 1, none⟩ = some (.slice a n c)) ∧ w'.cell? ⟨w.heap.size + 1, 0, none⟩ = some (.bool true) ∧ w'.cell? ⟨w.heap.size + 1, 1, none⟩ = some (.slice b m e)) (((try dsimp only); (repeat' apply And.intro)) <;> (with_reducible repeat (first | exact r0 | exact r1 | exact r2 | exact r3 | refine kc_drew ?_ | refine kc_drewN _ ?_ | refine kc_below hb2 ?_ | (refine kc_new ?_ ?_; (focus first | rfl | (simp only [World.size_alloc, World.size_setCell, World.size_drew, size_drewN]; done)); (focus first | rfl | (simp; done))) | (refine kc_set0 ?_ ?_; (focus first | rfl | (simp; done))) | exact ct_of (by assumption) | refine ct_drew ?_ | refine ct_drewN _ ?_ | refine ct_below hb2 ?_ | (refine ct_new ?_ ?_; (focus first | rfl | (simp only [World.size_alloc, World.size_setCell, World.size_drew, size_drewN]; done)); (focus first | rfl | (simp; done))) | refine ct_set _ _ ?_ | refine ct_alloc _ ?_ | (refine kc_set ?_ ?_; (focus first | (intro hx; injection hx; omega) | (simp; done))) | refine kc_alloc _ ?_))) (first | (go_at_call 126; refine (plus_any _ _ _ _ _ _ xs ys _ (HX.out _ (by (with_reducible repeat (first | exact hB | exact Below.refl _ _ | refine bl_alloc ?_ _ | refine bl_drew ?_ | refine bl_drewN ?_ _ | (refine bl_set ?_ ?_ _; (focus dsimp only; omega)) | refine bl_call ?_ hb2)))) (HY.out _ (by (with_reducible repeat (first | exact hB | exact Below.refl _ _ | refine bl_alloc ?_ _ | refine bl_drew ?_ | refine bl_drewN ?_ _ | (refine bl_set ?_ ?_ _; (focus dsimp only; omega)) | refine bl_call ?_ hb2)))) CX.out.1 CY.out.1 (by omega) (by omega)).mono ?_; rintro v w2 ⟨a2, n2, c2, zs, rfl, HV, hb2⟩; have ⟨r0, r1, r2, r3, r4, r5⟩ : w2.cell? ⟨w.heap.size, 0, none⟩ = some (.bool true) ∧ w2.cell? ⟨w.heap.size, 1, none⟩ = some (.slice a n c) ∧ w2.cell? ⟨w.heap.size + 1, 0, none⟩ = some (.bool true) ∧ w2.cell? ⟨w.heap.size + 1, 1, none⟩ = some (.slice b m e) ∧ w2.cell? ⟨w.heap.size + 1 + 1, 0, none⟩ = some (.bool false) ∧ w2.cell? ⟨w.heap.size + 1 + 1, 1, none⟩ = some (.slice none 0 0) := (by and_intros <;> (with_reducible repeat (first | exact r0 | exact r1 | exact r2 | exact r3 | exact r4 | exact r5 | exact r6 | exact r7 | refine kc_drew ?_ | refine kc_drewN _ ?_ | refine kc_below hb2 ?_ | (refine kc_new ?_ ?_; (focus first | rfl | (simp only [World.size_alloc, World.size_setCell, World.size_drew, size_drewN]; done)); (focus first | rfl | (simp; done))) | (refine kc_set0 ?_ ?_; (focus first | rfl | (simp; done))) | exact ct_of (by assumption) | refine ct_drew ?_ | refine ct_drewN _ ?_ | refine ct_below hb2 ?_ | (refine ct_new ?_ ?_; (focus first | rfl | (simp only [World.size_alloc, World.size_setCell, World.size_drew, size_drewN]; done)); (focus first | rfl | (simp; done))) | refine ct_set _ _ ?_ | refine ct_alloc _ ?_ | (refine kc_set ?_ ?_; (focus first | (intro hx; injection hx; omega) | (simp; done))) | refine kc_alloc _ ?_))); have ⟨r6, r7⟩ : w2.frozen? ⟨w.heap.size + 1 + 1, 0, none⟩ = false ∧ w2.frozen? ⟨w.heap.size + 1 + 1, 1, none⟩ = false := (by and_intros <;> (with_reducible repeat (first | exact r0 | exact r1 | exact r2 | exact r3 | exact r4 | exact r5 | exact r6 | exact r7 | refine kf_drew ?_ | refine kf_drewN _ ?_ | (refine kf_new ?_ _; (focus first | rfl | (simp only [World.size_alloc, World.size_setCell, World.size_drew, size_drewN]; done))) | refine kf_set _ _ ?_ | (refine kf_below hb2 ?_ ?_; (focus simp only [World.size_alloc, World.size_setCell, World.size_drew, size_drewN]; omega)) | (refine kf_alloc _ ?_ ?_; (focus first | (simp only [World.size_alloc, World.size_setCell, World.size_drew, size_drewN]; omega) | (dsimp only; omega)))))); have hB : Below w.heap.size w w2 := (by (with_reducible repeat (first | exact hB | exact Below.refl _ _ | refine bl_alloc ?_ _ | refine bl_drew ?_ | refine bl_drewN ?_ _ | (refine bl_set ?_ ?_ _; (focus dsimp only; omega)) | refine bl_call ?_ hb2))); have hz2 := hb2.size; (try simp only [World.size_alloc, World.size_drew, size_drewN] at hz2); have g2 : w.heap.size + 1 + 1 < w2.heap.size := (by omega)) | (go_at_call 96; refine (lean_any true _ _ _ zs _ (HV.out.1.below (by (with_reducible repeat (first | exact Below.refl _ _ | refine bl_alloc ?_ _ | refine bl_drew ?_ | refine bl_drewN ?_ _ | (refine bl_set ?_ ?_ _; (focus dsimp only; omega)))))) HV.out.2.1 (by have := HV.out.2.2.2; omega)).mono ?_; rintro v w2 ⟨s3, a3, n3, c3, rfl, HZ0, hb2⟩; have HZ : Hid (Zat (w.heap.size + 3) w2 s3 a3 n3 c3 _) := (HZ0.out.mono (by (try simp only [World.size_alloc, World.size_drew, size_drewN]); omega)); clear HZ0; have ⟨r0, r1, r2, r3, r4, r5⟩ : w2.cell? ⟨w.heap.size, 0, none⟩ = some (.bool true) ∧ w2.cell? ⟨w.heap.size, 1, none⟩ = some (.slice a n c) ∧ w2.cell? ⟨w.heap.size + 1, 0, none⟩ = some (.bool true) ∧ w2.cell? ⟨w.heap.size + 1, 1, none⟩ = some (.slice b m e) ∧ w2.cell? ⟨w.heap.size + 1 + 1, 0, none⟩ = some (.bool false) ∧ w2.cell? ⟨w.heap.size + 1 + 1, 1, none⟩ = some (.slice none 0 0) := (by and_intros <;> (with_reducible repeat (first | exact r0 | exact r1 | exact r2 | exact r3 | exact r4 | exact r5 | exact r6 | exact r7 | refine kc_drew ?_ | refine kc_drewN _ ?_ | refine kc_below hb2 ?_ | (refine kc_new ?_ ?_; (focus first | rfl | (simp only [World.size_alloc, World.size_setCell, World.size_drew, size_drewN]; done)); (focus first | rfl | (simp; done))) | (refine kc_set0 ?_ ?_; (focus first | rfl | (simp; done))) | exact ct_of (by assumption) | refine ct_drew ?_ | refine ct_drewN _ ?_ | refine ct_below hb2 ?_ | (refine ct_new ?_ ?_; (focus first | rfl | (simp only [World.size_alloc, World.size_setCell, World.size_drew, size_drewN]; done)); (focus first | rfl | (simp; done))) | refine ct_set _ _ ?_ | refine ct_alloc _ ?_ | (refine kc_set ?_ ?_; (focus first | (intro hx; injection hx; omega) | (simp; done))) | refine kc_alloc _ ?_))); have ⟨r6, r7⟩ : w2.frozen? ⟨w.heap.size + 1 + 1, 0, none⟩ = false ∧ w2.frozen? ⟨w.heap.size + 1 + 1, 1, none⟩ = false := (by and_intros <;> (with_reducible repeat (first | exact r0 | exact r1 | exact r2 | exact r3 | exact r4 | exact r5 | exact r6 | exact r7 | refine kf_drew ?_ | refine kf_drewN _ ?_ | (refine kf_new ?_ _; (focus first | rfl | (simp only [World.size_alloc, World.size_setCell, World.size_drew, size_drewN]; done))) | refine kf_set _ _ ?_ | (refine kf_below hb2 ?_ ?_; (focus simp only [World.size_alloc, World.size_setCell, World.size_drew, size_drewN]; omega)) | (refine kf_alloc _ ?_ ?_; (focus first | (simp only [World.size_alloc, World.size_setCell, World.size_drew, size_drewN]; omega) | (dsimp only; omega)))))); have hB : Below w.heap.size w w2 := (by (with_reducible repeat (first | exact hB | exact Below.refl _ _ | refine bl_alloc ?_ _ | refine bl_drew ?_ | refine bl_drewN ?_ _ | (refine bl_set ?_ ?_ _; (focus dsimp only; omega)) | refine bl_call ?_ hb2))); have hz2 := hb2.size; (try simp only [World.size_alloc, World.size_drew, size_drewN] at hz2); have g2 : w.heap.size + 1 + 1 < w2.heap.size := (by omega)))
  all_goals go_wp2_with fail
  all_goals
    exact bodyPost_ret (v := .agg #[.bool s3, .slice a3 n3 c3]) (by simp [results, Try.results111, go_sem, r4, r5, g2, Nat.ne_of_lt g2]) rfl
      ⟨s3, a3, n3, c3, rfl, by
        have e := HV.out.2.2.1
        have hz := ((HZ.out.set (b := w.heap.size + 1 + 1) (o := 0) (by omega) (.bool s3)).set (b := w.heap.size + 1 + 1) (o := 1) (by omega) (.slice a3 n3 c3)).mono (show w.heap.size ≤ w.heap.size + 3 by omega)
        exact hz.eq (by have := HS.out; rw [e]; simp; omega), bl_set (by simp only; omega) (bl_set (by simp only; omega) hB _) _⟩

set_option maxHeartbeats 4000000 in
set_option maxRecDepth 100000 in
theorem add_pm_ge (a b : Option Addr) (n c m e : Nat) (x y : Int) (xs ys : List Nat) (w : World) {p1 p2 : Nat} (hx : RdD p1 w a n c xs) (hy : RdD p2 w b m e ys) (cx : Canon xs) (cy : Canon ys) (hsx : x = ((val xs : Nat) : Int)) (hsy : y = -((val ys : Nat) : Int)) (hn : n ≤ 999999) (hm : m ≤ 999999) (hle : val ys ≤ val xs) :
    Calls Try.prog 111 #[.agg #[.bool false, .slice a n c], .agg #[.bool true, .slice b m e]] w (ZP w (x + y)) := by
  have HX : Hid (∀ W, Below w.heap.size w W → RdD p1 W a n c xs) := fun W hW => hx.below hW
  have HY : Hid (∀ W, Below w.heap.size w W → RdD p2 W b m e ys) := fun W hW => hy.below hW
  have CX := Lib.hid cx
  have CY := Lib.hid cy
  have HS : Hid (x = ((val xs : Nat) : Int) ∧ y = -((val ys : Nat) : Int)) := ⟨hsx, hsy⟩
  have HLE := Lib.hid hle
  have hmn : m ≤ n := by
    rcases Nat.lt_or_ge n m with h | h
    · exfalso
      have := lt_of_len cx cy (by have := hx.1; have := hy.1; omega)
      omega
    · exact h
  have hr : 0 ≤ cmpZ (val xs) (val ys) := by have := cmpZ_cases' (val xs) (val ys); omega
  clear hle
  clear hx hy cx cy hsx hsy
  go_enter Try.func111, Try.ntmps111
  go_wp2_with (go_at_call 99; refine (sizes_any _ _ _ _ _ _ xs ys _ (HX.out _ (by (with_reducible repeat (first | exact Below.refl _ _ | refine bl_alloc ?_ _ | refine bl_drew ?_ | refine bl_drewN ?_ _ | (refine bl_set ?_ ?_ _; (focus dsimp only; omega)))))) (HY.out _ (by (with_reducible repeat (first | exact Below.refl _ _ | refine bl_alloc ?_ _ | refine bl_drew ?_ | refine bl_drewN ?_ _ | (refine bl_set ?_ ?_ _; (focus dsimp only; omega)))))) CX.out CY.out (by omega) (by omega)).mono ?_; rintro v w2 ⟨rfl, hk2⟩; have hb2 := hk2.below; have ⟨r0, r1, r2, r3, r4, r5⟩ : w2.cell? ⟨w.heap.size, 0, none⟩ = some (.bool false) ∧ w2.cell? ⟨w.heap.size, 1, none⟩ = some (.slice a n c) ∧ w2.cell? ⟨w.heap.size + 1, 0, none⟩ = some (.bool true) ∧ w2.cell? ⟨w.heap.size + 1, 1, none⟩ = some (.slice b m e) ∧ w2.cell? ⟨w.heap.size + 1 + 1, 0, none⟩ = some (.bool false) ∧ w2.cell? ⟨w.heap.size + 1 + 1, 1, none⟩ = some (.slice none 0 0) := (by and_intros <;> (with_reducible repeat (first | exact r0 | exact r1 | exact r2 | exact r3 | exact r4 | exact r5 | exact r6 | exact r7 | refine kc_drew ?_ | refine kc_drewN _ ?_ | refine kc_below hb2 ?_ | (refine kc_new ?_ ?_; (focus first | rfl | (simp only [World.size_alloc, World.size_setCell, World.size_drew, size_drewN]; done)); (focus first | rfl | (simp; done))) | (refine kc_set0 ?_ ?_; (focus first | rfl | (simp; done))) | exact ct_of (by assumption) | refine ct_drew ?_ | refine ct_drewN _ ?_ | refine ct_below hb2 ?_ | (refine ct_new ?_ ?_; (focus first | rfl | (simp only [World.size_alloc, World.size_setCell, World.size_drew, size_drewN]; done)); (focus first | rfl | (simp; done))) | refine ct_set _ _ ?_ | refine ct_alloc _ ?_ | (refine kc_set ?_ ?_; (focus first | (intro hx; injection hx; omega) | (simp; done))) | refine kc_alloc _ ?_))); have ⟨r6, r7⟩ : w2.frozen? ⟨w.heap.size + 1 + 1, 0, none⟩ = false ∧ w2.frozen? ⟨w.heap.size + 1 + 1, 1, none⟩ = false := (by and_intros <;> (with_reducible repeat (first | exact r0 | exact r1 | exact r2 | exact r3 | exact r4 | exact r5 | exact r6 | exact r7 | refine kf_drew ?_ | refine kf_drewN _ ?_ | (refine kf_new ?_ _; (focus first | rfl | (simp only [World.size_alloc, World.size_setCell, World.size_drew, size_drewN]; done))) | refine kf_set _ _ ?_ | (refine kf_below hb2 ?_ ?_; (focus simp only [World.size_alloc, World.size_setCell, World.size_drew, size_drewN]; omega)) | (refine kf_alloc _ ?_ ?_; (focus first | (simp only [World.size_alloc, World.size_setCell, World.size_drew, size_drewN]; omega) | (dsimp only; omega)))))); have hB : Below w.heap.size w w2 := (by (with_reducible repeat (first | exact hB | exact Below.refl _ _ | refine bl_alloc ?_ _ | refine bl_drew ?_ | refine bl_drewN ?_ _ | (refine bl_set ?_ ?_ _; (focus dsimp only; omega)) | refine bl_call ?_ hb2))); have hz2 := hb2.size; (try simp only [World.size_alloc, World.size_drew, size_drewN] at hz2); have g2 : w.heap.size + 1 + 1 < w2.heap.size := (by omega))
  go_region_held3 (fun w' => (w'.cell? ⟨w.heap.size, 0, none⟩ = some (.bool false) ∧ w'.cell? ⟨w.heap.size, 1, none⟩ = some (.slice a n c)) ∧ w'.cell? ⟨w.heap.size + 1, 0, none⟩ = some (.bool true) ∧ w'.cell? ⟨w.heap.size + 1, 1, none⟩ = some (.slice b m e)) (((try dsimp only); (repeat' apply And.intro)) <;> (with_reducible repeat (first | exact r0 | exact r1 | exact r2 | exact r3 | refine kc_drew ?_ | refine kc_drewN _ ?_ | refine kc_below hb2 ?_ | (refine kc_new ?_ ?_; (focus first | rfl | (simp only [World.size_alloc, World.size_setCell, World.size_drew, size_drewN]; done)); (focus first | rfl | (simp; done))) | (refine kc_set0 ?_ ?_; (focus first | rfl | (simp; done))) | exact ct_of (by assumption) | refine ct_drew ?_ | refine ct_drewN _ ?_ | refine ct_below hb2 ?_ | (refine ct_new ?_ ?_; (focus first | rfl | (simp only [World.size_alloc, World.size_setCell, World.size_drew, size_drewN]; done)); (focus first | rfl | (simp; done))) | refine ct_set _ _ ?_ | refine ct_alloc _ ?_ | (refine kc_set ?_ ?_; (focus first | (intro hx; injection hx; omega) | (simp; done))) | refine kc_alloc _ ?_))) (first | (go_at_call 113; refine (less_any _ _ _ _ _ _ xs ys _ (HX.out _ (by (with_reducible repeat (first | exact hB | exact Below.refl _ _ | refine bl_alloc ?_ _ | refine bl_drew ?_ | refine bl_drewN ?_ _ | (refine bl_set ?_ ?_ _; (focus dsimp only; omega)) | refine bl_call ?_ hb2)))) (HY.out _ (by (with_reducible repeat (first | exact hB | exact Below.refl _ _ | refine bl_alloc ?_ _ | refine bl_drew ?_ | refine bl_drewN ?_ _ | (refine bl_set ?_ ?_ _; (focus dsimp only; omega)) | refine bl_call ?_ hb2)))) CX.out.1 CY.out.1 (by omega) (by omega) (by have := HLE.out; omega)).mono ?_; rintro v w2 ⟨a2, n2, c2, zs, rfl, HV, hb2⟩; have ⟨r0, r1, r2, r3, r4, r5⟩ : w2.cell? ⟨w.heap.size, 0, none⟩ = some (.bool false) ∧ w2.cell? ⟨w.heap.size, 1, none⟩ = some (.slice a n c) ∧ w2.cell? ⟨w.heap.size + 1, 0, none⟩ = some (.bool true) ∧ w2.cell? ⟨w.heap.size + 1, 1, none⟩ = some (.slice b m e) ∧ w2.cell? ⟨w.heap.size + 1 + 1, 0, none⟩ = some (.bool false) ∧ w2.cell? ⟨w.heap.size + 1 + 1, 1, none⟩ = some (.slice none 0 0) := (by and_intros <;> (with_reducible repeat (first | exact r0 | exact r1 | exact r2 | exact r3 | exact r4 | exact r5 | exact r6 | exact r7 | refine kc_drew ?_ | refine kc_drewN _ ?_ | refine kc_below hb2 ?_ | (refine kc_new ?_ ?_; (focus first | rfl | (simp only [World.size_alloc, World.size_setCell, World.size_drew, size_drewN]; done)); (focus first | rfl | (simp; done))) | (refine kc_set0 ?_ ?_; (focus first | rfl | (simp; done))) | exact ct_of (by assumption) | refine ct_drew ?_ | refine ct_drewN _ ?_ | refine ct_below hb2 ?_ | (refine ct_new ?_ ?_; (focus first | rfl | (simp only [World.size_alloc, World.size_setCell, World.size_drew, size_drewN]; done)); (focus first | rfl | (simp; done))) | refine ct_set _ _ ?_ | refine ct_alloc _ ?_ | (refine kc_set ?_ ?_; (focus first | (intro hx; injection hx; omega) | (simp; done))) | refine kc_alloc _ ?_))); have ⟨r6, r7⟩ : w2.frozen? ⟨w.heap.size + 1 + 1, 0, none⟩ = false ∧ w2.frozen? ⟨w.heap.size + 1 + 1, 1, none⟩ = false := (by and_intros <;> (with_reducible repeat (first | exact r0 | exact r1 | exact r2 | exact r3 | exact r4 | exact r5 | exact r6 | exact r7 | refine kf_drew ?_ | refine kf_drewN _ ?_ | (refine kf_new ?_ _; (focus first | rfl | (simp only [World.size_alloc, World.size_setCell, World.size_drew, size_drewN]; done))) | refine kf_set _ _ ?_ | (refine kf_below hb2 ?_ ?_; (focus simp only [World.size_alloc, World.size_setCell, World.size_drew, size_drewN]; omega)) | (refine kf_alloc _ ?_ ?_; (focus first | (simp only [World.size_alloc, World.size_setCell, World.size_drew, size_drewN]; omega) | (dsimp only; omega)))))); have hB : Below w.heap.size w w2 := (by (with_reducible repeat (first | exact hB | exact Below.refl _ _ | refine bl_alloc ?_ _ | refine bl_drew ?_ | refine bl_drewN ?_ _ | (refine bl_set ?_ ?_ _; (focus dsimp only; omega)) | refine bl_call ?_ hb2))); have hz2 := hb2.size; (try simp only [World.size_alloc, World.size_drew, size_drewN] at hz2); have g2 : w.heap.size + 1 + 1 < w2.heap.size := (by omega)) | (go_at_call 96; refine (lean_any false _ _ _ zs _ (HV.out.1.below (by (with_reducible repeat (first | exact Below.refl _ _ | refine bl_alloc ?_ _ | refine bl_drew ?_ | refine bl_drewN ?_ _ | (refine bl_set ?_ ?_ _; (focus dsimp only; omega)))))) HV.out.2.1 (by have := HV.out.2.2.2; omega)).mono ?_; rintro v w2 ⟨s3, a3, n3, c3, rfl, HZ0, hb2⟩; have HZ : Hid (Zat (w.heap.size + 3) w2 s3 a3 n3 c3 _) := (HZ0.out.mono (by (try simp only [World.size_alloc, World.size_drew, size_drewN]); omega)); clear HZ0; have ⟨r0, r1, r2, r3, r4, r5⟩ : w2.cell? ⟨w.heap.size, 0, none⟩ = some (.bool false) ∧ w2.cell? ⟨w.heap.size, 1, none⟩ = some (.slice a n c) ∧ w2.cell? ⟨w.heap.size + 1, 0, none⟩ = some (.bool true) ∧ w2.cell? ⟨w.heap.size + 1, 1, none⟩ = some (.slice b m e) ∧ w2.cell? ⟨w.heap.size + 1 + 1, 0, none⟩ = some (.bool false) ∧ w2.cell? ⟨w.heap.size + 1 + 1, 1, none⟩ = some (.slice none 0 0) := (by and_intros <;> (with_reducible repeat (first | exact r0 | exact r1 | exact r2 | exact r3 | exact r4 | exact r5 | exact r6 | exact r7 | refine kc_drew ?_ | refine kc_drewN _ ?_ | refine kc_below hb2 ?_ | (refine kc_new ?_ ?_; (focus first | rfl | (simp only [World.size_alloc, World.size_setCell, World.size_drew, size_drewN]; done)); (focus first | rfl | (simp; done))) | (refine kc_set0 ?_ ?_; (focus first | rfl | (simp; done))) | exact ct_of (by assumption) | refine ct_drew ?_ | refine ct_drewN _ ?_ | refine ct_below hb2 ?_ | (refine ct_new ?_ ?_; (focus first | rfl | (simp only [World.size_alloc, World.size_setCell, World.size_drew, size_drewN]; done)); (focus first | rfl | (simp; done))) | refine ct_set _ _ ?_ | refine ct_alloc _ ?_ | (refine kc_set ?_ ?_; (focus first | (intro hx; injection hx; omega) | (simp; done))) | refine kc_alloc _ ?_))); have ⟨r6, r7⟩ : w2.frozen? ⟨w.heap.size + 1 + 1, 0, none⟩ = false ∧ w2.frozen? ⟨w.heap.size + 1 + 1, 1, none⟩ = false := (by and_intros <;> (with_reducible repeat (first | exact r0 | exact r1 | exact r2 | exact r3 | exact r4 | exact r5 | exact r6 | exact r7 | refine kf_drew ?_ | refine kf_drewN _ ?_ | (refine kf_new ?_ _; (focus first | rfl | (simp only [World.size_alloc, World.size_setCell, World.size_drew, size_drewN]; done))) | refine kf_set _ _ ?_ | (refine kf_below hb2 ?_ ?_; (focus simp only [World.size_alloc, World.size_setCell, World.size_drew, size_drewN]; omega)) | (refine kf_alloc _ ?_ ?_; (focus first | (simp only [World.size_alloc, World.size_setCell, World.size_drew, size_drewN]; omega) | (dsimp only; omega)))))); have hB : Below w.heap.size w w2 := (by (with_reducible repeat (first | exact hB | exact Below.refl _ _ | refine bl_alloc ?_ _ | refine bl_drew ?_ | refine bl_drewN ?_ _ | (refine bl_set ?_ ?_ _; (focus dsimp only; omega)) | refine bl_call ?_ hb2))); have hz2 := hb2.size; (try simp only [World.size_alloc, World.size_drew, size_drewN] at hz2); have g2 : w.heap.size + 1 + 1 < w2.heap.size := (by omega)))
  all_goals go_wp2_with fail
  all_goals
    exact bodyPost_ret (v := .agg #[.bool s3, .slice a3 n3 c3]) (by simp [results, Try.results111, go_sem, r4, r5, g2, Nat.ne_of_lt g2]) rfl
      ⟨s3, a3, n3, c3, rfl, by
        have e := HV.out.2.2.1
        have hz := ((HZ.out.set (b := w.heap.size + 1 + 1) (o := 0) (by omega) (.bool s3)).set (b := w.heap.size + 1 + 1) (o := 1) (by omega) (.slice a3 n3 c3)).mono (show w.heap.size ≤ w.heap.size + 3 by omega)
        exact hz.eq (by have := HS.out; have := HLE.out; rw [e]; simp; omega), bl_set (by simp only; omega) (bl_set (by simp only; omega) hB _) _⟩

set_option maxHeartbeats 4000000 in
set_option maxRecDepth 100000 in
theorem add_pm_lt (a b : Option Addr) (n c m e : Nat) (x y : Int) (xs ys : List Nat) (w : World) {p1 p2 : Nat} (hx : RdD p1 w a n c xs) (hy : RdD p2 w b m e ys) (cx : Canon xs) (cy : Canon ys) (hsx : x = ((val xs : Nat) : Int)) (hsy : y = -((val ys : Nat) : Int)) (hn : n ≤ 999999) (hm : m ≤ 999999) (hle : val xs < val ys) :
    Calls Try.prog 111 #[.agg #[.bool false, .slice a n c], .agg #[.bool true, .slice b m e]] w (ZP w (x + y)) := by
  have HX : Hid (∀ W, Below w.heap.size w W → RdD p1 W a n c xs) := fun W hW => hx.below hW
  have HY : Hid (∀ W, Below w.heap.size w W → RdD p2 W b m e ys) := fun W hW => hy.below hW
  have CX := Lib.hid cx
  have CY := Lib.hid cy
  have HS : Hid (x = ((val xs : Nat) : Int) ∧ y = -((val ys : Nat) : Int)) := ⟨hsx, hsy⟩
  have HLE := Lib.hid hle
  have hmn : n ≤ m := by
    rcases Nat.lt_or_ge m n with h | h
    · exfalso
      have := lt_of_len cy cx (by have := hx.1; have := hy.1; omega)
      omega
    · exact h
  have hr : cmpZ (val xs) (val ys) < 0 := by have := cmpZ_cases' (val xs) (val ys); omega
  clear hle
  clear hx hy cx cy hsx hsy
  go_enter Try.func111, Try.ntmps111
  go_wp2_with (go_at_call 99; refine (sizes_any _ _ _ _ _ _ xs ys _ (HX.out _ (by (with_reducible repeat (first | exact Below.refl _ _ | refine bl_alloc ?_ _ | refine bl_drew ?_ | refine bl_drewN ?_ _ | (refine bl_set ?_ ?_ _; (focus dsimp only; omega)))))) (HY.out _ (by (with_reducible repeat (first | exact Below.refl _ _ | refine bl_alloc ?_ _ | refine bl_drew ?_ | refine bl_drewN ?_ _ | (refine bl_set ?_ ?_ _; (focus dsimp only; omega)))))) CX.out CY.out (by omega) (by omega)).mono ?_; rintro v w2 ⟨rfl, hk2⟩; have hb2 := hk2.below; have ⟨r0, r1, r2, r3, r4, r5⟩ : w2.cell? ⟨w.heap.size, 0, none⟩ = some (.bool false) ∧ w2.cell? ⟨w.heap.size, 1, none⟩ = some (.slice a n c) ∧ w2.cell? ⟨w.heap.size + 1, 0, none⟩ = some (.bool true) ∧ w2.cell? ⟨w.heap.size + 1, 1, none⟩ = some (.slice b m e) ∧ w2.cell? ⟨w.heap.size + 1 + 1, 0, none⟩ = some (.bool false) ∧ w2.cell? ⟨w.heap.size + 1 + 1, 1, none⟩ = some (.slice none 0 0) := (by and_intros <;> (with_reducible repeat (first | exact r0 | exact r1 | exact r2 | exact r3 | exact r4 | exact r5 | exact r6 | exact r7 | refine kc_drew ?_ | refine kc_drewN _ ?_ | refine kc_below hb2 ?_ | (refine kc_new ?_ ?_; (focus first | rfl | (simp only [World.size_alloc, World.size_setCell, World.size_drew, size_drewN]; done)); (focus first | rfl | (simp; done))) | (refine kc_set0 ?_ ?_; (focus first | rfl | (simp; done))) | exact ct_of (by assumption) | refine ct_drew ?_ | refine ct_drewN _ ?_ | refine ct_below hb2 ?_ | (refine ct_new ?_ ?_; (focus first | rfl | (simp only [World.size_alloc, World.size_setCell, World.size_drew, size_drewN]; done)); (focus first | rfl | (simp; done))) | refine ct_set _ _ ?_ | refine ct_alloc _ ?_ | (refine kc_set ?_ ?_; (focus first | (intro hx; injection hx; omega) | (simp; done))) | refine kc_alloc _ ?_))); have ⟨r6, r7⟩ : w2.frozen? ⟨w.heap.size + 1 + 1, 0, none⟩ = false ∧ w2.frozen? ⟨w.heap.size + 1 + 1, 1, none⟩ = false := (by and_intros <;> (with_reducible repeat (first | exact r0 | exact r1 | exact r2 | exact r3 | exact r4 | exact r5 | exact r6 | exact r7 | refine kf_drew ?_ | refine kf_drewN _ ?_ | (refine kf_new ?_ _; (focus first | rfl | (simp only [World.size_alloc, World.size_setCell, World.size_drew, size_drewN]; done))) | refine kf_set _ _ ?_ | (refine kf_below hb2 ?_ ?_; (focus simp only [World.size_alloc, World.size_setCell, World.size_drew, size_drewN]; omega)) | (refine kf_alloc _ ?_ ?_; (focus first | (simp only [World.size_alloc, World.size_setCell, World.size_drew, size_drewN]; omega) | (dsimp only; omega)))))); have hB : Below w.heap.size w w2 := (by (with_reducible repeat (first | exact hB | exact Below.refl _ _ | refine bl_alloc ?_ _ | refine bl_drew ?_ | refine bl_drewN ?_ _ | (refine bl_set ?_ ?_ _; (focus dsimp only; omega)) | refine bl_call ?_ hb2))); have hz2 := hb2.size; (try simp only [World.size_alloc, World.size_drew, size_drewN] at hz2); have g2 : w.heap.size + 1 + 1 < w2.heap.size := (by omega))
  go_region_held3 (fun w' => (w'.cell? ⟨w.heap.size, 0, none⟩ = some (.bool false) ∧ w'.cell? ⟨w.heap.size, 1, none⟩ = some (.slice a n c)) ∧ w'.cell? ⟨w.heap.size + 1, 0, none⟩ = some (.bool true) ∧ w'.cell? ⟨w.heap.size + 1, 1, none⟩ = some (.slice b m e)) (((try dsimp only); (repeat' apply And.intro)) <;> (with_reducible repeat (first | exact r0 | exact r1 | exact r2 | exact r3 | refine kc_drew ?_ | refine kc_drewN _ ?_ | refine kc_below hb2 ?_ | (refine kc_new ?_ ?_; (focus first | rfl | (simp only [World.size_alloc, World.size_setCell, World.size_drew, size_drewN]; done)); (focus first | rfl | (simp; done))) | (refine kc_set0 ?_ ?_; (focus first | rfl | (simp; done))) | exact ct_of (by assumption) | refine ct_drew ?_ | refine ct_drewN _ ?_ | refine ct_below hb2 ?_ | (refine ct_new ?_ ?_; (focus first | rfl | (simp only [World.size_alloc, World.size_setCell, World.size_drew, size_drewN]; done)); (focus first | rfl | (simp; done))) | refine ct_set _ _ ?_ | refine ct_alloc _ ?_ | (refine kc_set ?_ ?_; (focus first | (intro hx; injection hx; omega) | (simp; done))) | refine kc_alloc _ ?_))) (first | (go_at_call 113; refine (less_any _ _ _ _ _ _ ys xs _ (HY.out _ (by (with_reducible repeat (first | exact hB | exact Below.refl _ _ | refine bl_alloc ?_ _ | refine bl_drew ?_ | refine bl_drewN ?_ _ | (refine bl_set ?_ ?_ _; (focus dsimp only; omega)) | refine bl_call ?_ hb2)))) (HX.out _ (by (with_reducible repeat (first | exact hB | exact Below.refl _ _ | refine bl_alloc ?_ _ | refine bl_drew ?_ | refine bl_drewN ?_ _ | (refine bl_set ?_ ?_ _; (focus dsimp only; omega)) | refine bl_call ?_ hb2)))) CY.out.1 CX.out.1 (by omega) (by omega) (by have := HLE.out; omega)).mono ?_; rintro v w2 ⟨a2, n2, c2, zs, rfl, HV, hb2⟩; have ⟨r0, r1, r2, r3, r4, r5⟩ : w2.cell? ⟨w.heap.size, 0, none⟩ = some (.bool false) ∧ w2.cell? ⟨w.heap.size, 1, none⟩ = some (.slice a n c) ∧ w2.cell? ⟨w.heap.size + 1, 0, none⟩ = some (.bool true) ∧ w2.cell? ⟨w.heap.size + 1, 1, none⟩ = some (.slice b m e) ∧ w2.cell? ⟨w.heap.size + 1 + 1, 0, none⟩ = some (.bool false) ∧ w2.cell? ⟨w.heap.size + 1 + 1, 1, none⟩ = some (.slice none 0 0) := (by and_intros <;> (with_reducible repeat (first | exact r0 | exact r1 | exact r2 | exact r3 | exact r4 | exact r5 | exact r6 | exact r7 | refine kc_drew ?_ | refine kc_drewN _ ?_ | refine kc_below hb2 ?_ | (refine kc_new ?_ ?_; (focus first | rfl | (simp only [World.size_alloc, World.size_setCell, World.size_drew, size_drewN]; done)); (focus first | rfl | (simp; done))) | (refine kc_set0 ?_ ?_; (focus first | rfl | (simp; done))) | exact ct_of (by assumption) | refine ct_drew ?_ | refine ct_drewN _ ?_ | refine ct_below hb2 ?_ | (refine ct_new ?_ ?_; (focus first | rfl | (simp only [World.size_alloc, World.size_setCell, World.size_drew, size_drewN]; done)); (focus first | rfl | (simp; done))) | refine ct_set _ _ ?_ | refine ct_alloc _ ?_ | (refine kc_set ?_ ?_; (focus first | (intro hx; injection hx; omega) | (simp; done))) | refine kc_alloc _ ?_))); have ⟨r6, r7⟩ : w2.frozen? ⟨w.heap.size + 1 + 1, 0, none⟩ = false ∧ w2.frozen? ⟨w.heap.size + 1 + 1, 1, none⟩ = false := (by and_intros <;> (with_reducible repeat (first | exact r0 | exact r1 | exact r2 | exact r3 | exact r4 | exact r5 | exact r6 | exact r7 | refine kf_drew ?_ | refine kf_drewN _ ?_ | (refine kf_new ?_ _; (focus first | rfl | (simp only [World.size_alloc, World.size_setCell, World.size_drew, size_drewN]; done))) | refine kf_set _ _ ?_ | (refine kf_below hb2 ?_ ?_; (focus simp only [World.size_alloc, World.size_setCell, World.size_drew, size_drewN]; omega)) | (refine kf_alloc _ ?_ ?_; (focus first | (simp only [World.size_alloc, World.size_setCell, World.size_drew, size_drewN]; omega) | (dsimp only; omega)))))); have hB : Below w.heap.size w w2 := (by (with_reducible repeat (first | exact hB | exact Below.refl _ _ | refine bl_alloc ?_ _ | refine bl_drew ?_ | refine bl_drewN ?_ _ | (refine bl_set ?_ ?_ _; (focus dsimp only; omega)) | refine bl_call ?_ hb2))); have hz2 := hb2.size; (try simp only [World.size_alloc, World.size_drew, size_drewN] at hz2); have g2 : w.heap.size + 1 + 1 < w2.heap.size := (by omega)) | (go_at_call 96; refine (lean_any true _ _ _ zs _ (HV.out.1.below (by (with_reducible repeat (first | exact Below.refl _ _ | refine bl_alloc ?_ _ | refine bl_drew ?_ | refine bl_drewN ?_ _ | (refine bl_set ?_ ?_ _; (focus dsimp only; omega)))))) HV.out.2.1 (by have := HV.out.2.2.2; omega)).mono ?_; rintro v w2 ⟨s3, a3, n3, c3, rfl, HZ0, hb2⟩; have HZ : Hid (Zat (w.heap.size + 3) w2 s3 a3 n3 c3 _) := (HZ0.out.mono (by (try simp only [World.size_alloc, World.size_drew, size_drewN]); omega)); clear HZ0; have ⟨r0, r1, r2, r3, r4, r5⟩ : w2.cell? ⟨w.heap.size, 0, none⟩ = some (.bool false) ∧ w2.cell? ⟨w.heap.size, 1, none⟩ = some (.slice a n c) ∧ w2.cell? ⟨w.heap.size + 1, 0, none⟩ = some (.bool true) ∧ w2.cell? ⟨w.heap.size + 1, 1, none⟩ = some (.slice b m e) ∧ w2.cell? ⟨w.heap.size + 1 + 1, 0, none⟩ = some (.bool false) ∧ w2.cell? ⟨w.heap.size + 1 + 1, 1, none⟩ = some (.slice none 0 0) := (by and_intros <;> (with_reducible repeat (first | exact r0 | exact r1 | exact r2 | exact r3 | exact r4 | exact r5 | exact r6 | exact r7 | refine kc_drew ?_ | refine kc_drewN _ ?_ | refine kc_below hb2 ?_ | (refine kc_new ?_ ?_; (focus first | rfl | (simp only [World.size_alloc, World.size_setCell, World.size_drew, size_drewN]; done)); (focus first | rfl | (simp; done))) | (refine kc_set0 ?_ ?_; (focus first | rfl | (simp; done))) | exact ct_of (by assumption) | refine ct_drew ?_ | refine ct_drewN _ ?_ | refine ct_below hb2 ?_ | (refine ct_new ?_ ?_; (focus first | rfl | (simp only [World.size_alloc, World.size_setCell, World.size_drew, size_drewN]; done)); (focus first | rfl | (simp; done))) | refine ct_set _ _ ?_ | refine ct_alloc _ ?_ | (refine kc_set ?_ ?_; (focus first | (intro hx; injection hx; omega) | (simp; done))) | refine kc_alloc _ ?_))); have ⟨r6, r7⟩ : w2.frozen? ⟨w.heap.size + 1 + 1, 0, none⟩ = false ∧ w2.frozen? ⟨w.heap.size + 1 + 1, 1, none⟩ = false := (by and_intros <;> (with_reducible repeat (first | exact r0 | exact r1 | exact r2 | exact r3 | exact r4 | exact r5 | exact r6 | exact r7 | refine kf_drew ?_ | refine kf_drewN _ ?_ | (refine kf_new ?_ _; (focus first | rfl | (simp only [World.size_alloc, World.size_setCell, World.size_drew, size_drewN]; done))) | refine kf_set _ _ ?_ | (refine kf_below hb2 ?_ ?_; (focus simp only [World.size_alloc, World.size_setCell, World.size_drew, size_drewN]; omega)) | (refine kf_alloc _ ?_ ?_; (focus first | (simp only [World.size_alloc, World.size_setCell, World.size_drew, size_drewN]; omega) | (dsimp only; omega)))))); have hB : Below w.heap.size w w2 := (by (with_reducible repeat (first | exact hB | exact Below.refl _ _ | refine bl_alloc ?_ _ | refine bl_drew ?_ | refine bl_drewN ?_ _ | (refine bl_set ?_ ?_ _; (focus dsimp only; omega)) | refine bl_call ?_ hb2))); have hz2 := hb2.size; (try simp only [World.size_alloc, World.size_drew, size_drewN] at hz2); have g2 : w.heap.size + 1 + 1 < w2.heap.size := (by omega)))
  all_goals go_wp2_with fail
  all_goals
    exact bodyPost_ret (v := .agg #[.bool s3, .slice a3 n3 c3]) (by simp [results, Try.results111, go_sem, r4, r5, g2, Nat.ne_of_lt g2]) rfl
      ⟨s3, a3, n3, c3, rfl, by
        have e := HV.out.2.2.1
        have hz := ((HZ.out.set (b := w.heap.size + 1 + 1) (o := 0) (by omega) (.bool s3)).set (b := w.heap.size + 1 + 1) (o := 1) (by omega) (.slice a3 n3 c3)).mono (show w.heap.size ≤ w.heap.size + 3 by omega)
        exact hz.eq (by have := HS.out; have := HLE.out; rw [e]; simp; omega), bl_set (by simp only; omega) (bl_set (by simp only; omega) hB _) _⟩

set_option maxHeartbeats 4000000 in
set_option maxRecDepth 100000 in
theorem add_mp_ge (a b : Option Addr) (n c m e : Nat) (x y : Int) (xs ys : List Nat) (w : World) {p1 p2 : Nat} (hx : RdD p1 w a n c xs) (hy : RdD p2 w b m e ys) (cx : Canon xs) (cy : Canon ys) (hsx : x = -((val xs : Nat) : Int)) (hsy : y = ((val ys : Nat) : Int)) (hn : n ≤ 999999) (hm : m ≤ 999999) (hle : val ys ≤ val xs) :
    Calls Try.prog 111 #[.agg #[.bool true, .slice a n c], .agg #[.bool false, .slice b m e]] w (ZP w (x + y)) := by
  have HX : Hid (∀ W, Below w.heap.size w W → RdD p1 W a n c xs) := fun W hW => hx.below hW
  have HY : Hid (∀ W, Below w.heap.size w W → RdD p2 W b m e ys) := fun W hW => hy.below hW
  have CX := Lib.hid cx
  have CY := Lib.hid cy
  have HS : Hid (x = -((val xs : Nat) : Int) ∧ y = ((val ys : Nat) : Int)) := ⟨hsx, hsy⟩
  have HLE := Lib.hid hle
  have hmn : m ≤ n := by
    rcases Nat.lt_or_ge n m with h | h
    · exfalso
      have := lt_of_len cx cy (by have := hx.1; have := hy.1; omega)
      omega
    · exact h
  have hr : 0 ≤ cmpZ (val xs) (val ys) := by have := cmpZ_cases' (val xs) (val ys); omega
  clear hle
  clear hx hy cx cy hsx hsy
  go_enter Try.func111, Try.ntmps111
  go_wp2_with (go_at_call 99; refine (sizes_any _ _ _ _ _ _ xs ys _ (HX.out _ (by (with_reducible repeat (first | exact Below.refl _ _ | refine bl_alloc ?_ _ | refine bl_drew ?_ | refine bl_drewN ?_ _ | (refine bl_set ?_ ?_ _; (focus dsimp only; omega)))))) (HY.out _ (by (with_reducible repeat (first | exact Below.refl _ _ | refine bl_alloc ?_ _ | refine bl_drew ?_ | refine bl_drewN ?_ _ | (refine bl_set ?_ ?_ _; (focus dsimp only; omega)))))) CX.out CY.out (by omega) (by omega)).mono ?_; rintro v w2 ⟨rfl, hk2⟩; have hb2 := hk2.below; have ⟨r0, r1, r2, r3, r4, r5⟩ : w2.cell? ⟨w.heap.size, 0, none⟩ = some (.bool true) ∧ w2.cell? ⟨w.heap.size, 1, none⟩ = some (.slice a n c) ∧ w2.cell? ⟨w.heap.size + 1, 0, none⟩ = some (.bool false) ∧ w2.cell? ⟨w.heap.size + 1, 1, none⟩ = some (.slice b m e) ∧ w2.cell? ⟨w.heap.size + 1 + 1, 0, none⟩ = some (.bool false) ∧ w2.cell? ⟨w.heap.size + 1 + 1, 1, none⟩ = some (.slice none 0 0) := (by and_intros <;> (with_reducible repeat (first | exact r0 | exact r1 | exact r2 | exact r3 | exact r4 | exact r5 | exact r6 | exact r7 | refine kc_drew ?_ | refine kc_drewN _ ?_ | refine kc_below hb2 ?_ | (refine kc_new ?_ ?_; (focus first | rfl | (simp only [World.size_alloc, World.size_setCell, World.size_drew, size_drewN]; done)); (focus first | rfl | (simp; done))) | (refine kc_set0 ?_ ?_; (focus first | rfl | (simp; done))) | exact ct_of (by assumption) | refine ct_drew ?_ | refine ct_drewN _ ?_ | refine ct_below hb2 ?_ | (refine ct_new ?_ ?_; (focus first | rfl | (simp only [World.size_alloc, World.size_setCell, World.size_drew, size_drewN]; done)); (focus first | rfl | (simp; done))) | refine ct_set _ _ ?_ | refine ct_alloc _ ?_ | (refine kc_set ?_ ?_; (focus first | (intro hx; injection hx; omega) | (simp; done))) | refine kc_alloc _ ?_))); have ⟨r6, r7⟩ : w2.frozen? ⟨w.heap.size + 1 + 1, 0, none⟩ = false ∧ w2.frozen? ⟨w.heap.size + 1 + 1, 1, none⟩ = false := (by and_intros <;> (with_reducible repeat (first | exact r0 | exact r1 | exact r2 | exact r3 | exact r4 | exact r5 | exact r6 | exact r7 | refine kf_drew ?_ | refine kf_drewN _ ?_ | (refine kf_new ?_ _; (focus first | rfl | (simp only [World.size_alloc, World.size_setCell, World.size_drew, size_drewN]; done))) | refine kf_set _ _ ?_ | (refine kf_below hb2 ?_ ?_; (focus simp only [World.size_alloc, World.size_setCell, World.size_drew, size_drewN]; omega)) | (refine kf_alloc _ ?_ ?_; (focus first | (simp only [World.size_alloc, World.size_setCell, World.size_drew, size_drewN]; omega) | (dsimp only; omega)))))); have hB : Below w.heap.size w w2 := (by (with_reducible repeat (first | exact hB | exact Below.refl _ _ | refine bl_alloc ?_ _ | refine bl_drew ?_ | refine bl_drewN ?_ _ | (refine bl_set ?_ ?_ _; (focus dsimp only; omega)) | refine bl_call ?_ hb2))); have hz2 := hb2.size; (try simp only [World.size_alloc, World.size_drew, size_drewN] at hz2); have g2 : w.heap.size + 1 + 1 < w2.heap.size := (by omega))
  go_region_held3 (fun w' => (w'.cell? ⟨w.heap.size, 0, none⟩ = some (.bool true) ∧ w'.cell? ⟨w.heap.size, 1, none⟩ = some (.slice a n c)) ∧ w'.cell? ⟨w.heap.size + 1, 0, none⟩ = some (.bool false) ∧ w'.cell? ⟨w.heap.size + 1, 1, none⟩ = some (.slice b m e)) (((try dsimp only); (repeat' apply And.intro)) <;> (with_reducible repeat (first | exact r0 | exact r1 | exact r2 | exact r3 | refine kc_drew ?_ | refine kc_drewN _ ?_ | refine kc_below hb2 ?_ | (refine kc_new ?_ ?_; (focus first | rfl | (simp only [World.size_alloc, World.size_setCell, World.size_drew, size_drewN]; done)); (focus first | rfl | (simp; done))) | (refine kc_set0 ?_ ?_; (focus first | rfl | (simp; done))) | exact ct_of (by assumption) | refine ct_drew ?_ | refine ct_drewN _ ?_ | refine ct_below hb2 ?_ | (refine ct_new ?_ ?_; (focus first | rfl | (simp only [World.size_alloc, World.size_setCell, World.size_drew, size_drewN]; done)); (focus first | rfl | (simp; done))) | refine ct_set _ _ ?_ | refine ct_alloc _ ?_ | (refine kc_set ?_ ?_; (focus first | (intro hx; injection hx; omega) | (simp; done))) | refine kc_alloc _ ?_))) (first | (go_at_call 113; refine (less_any _ _ _ _ _ _ xs ys _ (HX.out _ (by (with_reducible repeat (first | exact hB | exact Below.refl _ _ | refine bl_alloc ?_ _ | refine bl_drew ?_ | refine bl_drewN ?_ _ | (refine bl_set ?_ ?_ _; (focus dsimp only; omega)) | refine bl_call ?_ hb2)))) (HY.out _ (by (with_reducible repeat (first | exact hB | exact Below.refl _ _ | refine bl_alloc ?_ _ | refine bl_drew ?_ | refine bl_drewN ?_ _ | (refine bl_set ?_ ?_ _; (focus dsimp only; omega)) | refine bl_call ?_ hb2)))) CX.out.1 CY.out.1 (by omega) (by omega) (by have := HLE.out; omega)).mono ?_; rintro v w2 ⟨a2, n2, c2, zs, rfl, HV, hb2⟩; have ⟨r0, r1, r2, r3, r4, r5⟩ : w2.cell? ⟨w.heap.size, 0, none⟩ = some (.bool true) ∧ w2.cell? ⟨w.heap.size, 1, none⟩ = some (.slice a n c) ∧ w2.cell? ⟨w.heap.size + 1, 0, none⟩ = some (.bool false) ∧ w2.cell? ⟨w.heap.size + 1, 1, none⟩ = some (.slice b m e) ∧ w2.cell? ⟨w.heap.size + 1 + 1, 0, none⟩ = some (.bool false) ∧ w2.cell? ⟨w.heap.size + 1 + 1, 1, none⟩ = some (.slice none 0 0) := (by and_intros <;> (with_reducible repeat (first | exact r0 | exact r1 | exact r2 | exact r3 | exact r4 | exact r5 | exact r6 | exact r7 | refine kc_drew ?_ | refine kc_drewN _ ?_ | refine kc_below hb2 ?_ | (refine kc_new ?_ ?_; (focus first | rfl | (simp only [World.size_alloc, World.size_setCell, World.size_drew, size_drewN]; done)); (focus first | rfl | (simp; done))) | (refine kc_set0 ?_ ?_; (focus first | rfl | (simp; done))) | exact ct_of (by assumption) | refine ct_drew ?_ | refine ct_drewN _ ?_ | refine ct_below hb2 ?_ | (refine ct_new ?_ ?_; (focus first | rfl | (simp only [World.size_alloc, World.size_setCell, World.size_drew, size_drewN]; done)); (focus first | rfl | (simp; done))) | refine ct_set _ _ ?_ | refine ct_alloc _ ?_ | (refine kc_set ?_ ?_; (focus first | (intro hx; injection hx; omega) | (simp; done))) | refine kc_alloc _ ?_))); have ⟨r6, r7⟩ : w2.frozen? ⟨w.heap.size + 1 + 1, 0, none⟩ = false ∧ w2.frozen? ⟨w.heap.size + 1 + 1, 1, none⟩ = false := (by and_intros <;> (with_reducible repeat (first | exact r0 | exact r1 | exact r2 | exact r3 | exact r4 | exact r5 | exact r6 | exact r7 | refine kf_drew ?_ | refine kf_drewN _ ?_ | (refine kf_new ?_ _; (focus first | rfl | (simp only [World.size_alloc, World.size_setCell, World.size_drew, size_drewN]; done))) | refine kf_set _ _ ?_ | (refine kf_below hb2 ?_ ?_; (focus simp only [World.size_alloc, World.size_setCell, World.size_drew, size_drewN]; omega)) | (refine kf_alloc _ ?_ ?_; (focus first | (simp only [World.size_alloc, World.size_setCell, World.size_drew, size_drewN]; omega) | (dsimp only; omega)))))); have hB : Below w.heap.size w w2 := (by (with_reducible repeat (first | exact hB | exact Below.refl _ _ | refine bl_alloc ?_ _ | refine bl_drew ?_ | refine bl_drewN ?_ _ | (refine bl_set ?_ ?_ _; (focus dsimp only; omega)) | refine bl_call ?_ hb2))); have hz2 := hb2.size; (try simp only [World.size_alloc, World.size_drew, size_drewN] at hz2); have g2 : w.heap.size + 1 + 1 < w2.heap.size := (by omega)) | (go_at_call 96; refine (lean_any true _ _ _ zs _ (HV.out.1.below (by (with_reducible repeat (first | exact Below.refl _ _ | refine bl_alloc ?_ _ | refine bl_drew ?_ | refine bl_drewN ?_ _ | (refine bl_set ?_ ?_ _; (focus dsimp only; omega)))))) HV.out.2.1 (by have := HV.out.2.2.2; omega)).mono ?_; rintro v w2 ⟨s3, a3, n3, c3, rfl, HZ0, hb2⟩; have HZ : Hid (Zat (w.heap.size + 3) w2 s3 a3 n3 c3 _) := (HZ0.out.mono (by (try simp only [World.size_alloc, World.size_drew, size_drewN]); omega)); clear HZ0; have ⟨r0, r1, r2, r3, r4, r5⟩ : w2.cell? ⟨w.heap.size, 0, none⟩ = some (.bool true) ∧ w2.cell? ⟨w.heap.size, 1, none⟩ = some (.slice a n c) ∧ w2.cell? ⟨w.heap.size + 1, 0, none⟩ = some (.bool false) ∧ w2.cell? ⟨w.heap.size + 1, 1, none⟩ = some (.slice b m e) ∧ w2.cell? ⟨w.heap.size + 1 + 1, 0, none⟩ = some (.bool false) ∧ w2.cell? ⟨w.heap.size + 1 + 1, 1, none⟩ = some (.slice none 0 0) := (by and_intros <;> (with_reducible repeat (first | exact r0 | exact r1 | exact r2 | exact r3 | exact r4 | exact r5 | exact r6 | exact r7 | refine kc_drew ?_ | refine kc_drewN _ ?_ | refine kc_below hb2 ?_ | (refine kc_new ?_ ?_; (focus first | rfl | (simp only [World.size_alloc, World.size_setCell, World.size_drew, size_drewN]; done)); (focus first | rfl | (simp; done))) | (refine kc_set0 ?_ ?_; (focus first | rfl | (simp; done))) | exact ct_of (by assumption) | refine ct_drew ?_ | refine ct_drewN _ ?_ | refine ct_below hb2 ?_ | (refine ct_new ?_ ?_; (focus first | rfl | (simp only [World.size_alloc, World.size_setCell, World.size_drew, size_drewN]; done)); (focus first | rfl | (simp; done))) | refine ct_set _ _ ?_ | refine ct_alloc _ ?_ | (refine kc_set ?_ ?_; (focus first | (intro hx; injection hx; omega) | (simp; done))) | refine kc_alloc _ ?_))); have ⟨r6, r7⟩ : w2.frozen? ⟨w.heap.size + 1 + 1, 0, none⟩ = false ∧ w2.frozen? ⟨w.heap.size + 1 + 1, 1, none⟩ = false := (by and_intros <;> (with_reducible repeat (first | exact r0 | exact r1 | exact r2 | exact r3 | exact r4 | exact r5 | exact r6 | exact r7 | refine kf_drew ?_ | refine kf_drewN _ ?_ | (refine kf_new ?_ _; (focus first | rfl | (simp only [World.size_alloc, World.size_setCell, World.size_drew, size_drewN]; done))) | refine kf_set _ _ ?_ | (refine kf_below hb2 ?_ ?_; (focus simp only [World.size_alloc, World.size_setCell, World.size_drew, size_drewN]; omega)) | (refine kf_alloc _ ?_ ?_; (focus first | (simp only [World.size_alloc, World.size_setCell, World.size_drew, size_drewN]; omega) | (dsimp only; omega)))))); have hB : Below w.heap.size w w2 := (by (with_reducible repeat (first | exact hB | exact Below.refl _ _ | refine bl_alloc ?_ _ | refine bl_drew ?_ | refine bl_drewN ?_ _ | (refine bl_set ?_ ?_ _; (focus dsimp only; omega)) | refine bl_call ?_ hb2))); have hz2 := hb2.size; (try simp only [World.size_alloc, World.size_drew, size_drewN] at hz2); have g2 : w.heap.size + 1 + 1 < w2.heap.size := (by omega)))
  all_goals go_wp2_with fail
  all_goals
    exact bodyPost_ret (v := .agg #[.bool s3, .slice a3 n3 c3]) (by simp [results, Try.results111, go_sem, r4, r5, g2, Nat.ne_of_lt g2]) rfl
      ⟨s3, a3, n3, c3, rfl, by
        have e := HV.out.2.2.1
        have hz := ((HZ.out.set (b := w.heap.size + 1 + 1) (o := 0) (by omega) (.bool s3)).set (b := w.heap.size + 1 + 1) (o := 1) (by omega) (.slice a3 n3 c3)).mono (show w.heap.size ≤ w.heap.size + 3 by omega)
        exact hz.eq (by have := HS.out; have := HLE.out; rw [e]; simp; omega), bl_set (by simp only; omega) (bl_set (by simp only; omega) hB _) _⟩

set_option maxHeartbeats 4000000 in
set_option maxRecDepth 100000 in
theorem add_mp_lt (a b : Option Addr) (n c m e : Nat) (x y : Int) (xs ys : List Nat) (w : World) {p1 p2 : Nat} (hx : RdD p1 w a n c xs) (hy : RdD p2 w b m e ys) (cx : Canon xs) (cy : Canon ys) (hsx : x = -((val xs : Nat) : Int)) (hsy : y = ((val ys : Nat) : Int)) (hn : n ≤ 999999) (hm : m ≤ 999999) (hle : val xs < val ys) :
    Calls Try.prog 111 #[.agg #[.bool true, .slice a n c], .agg #[.bool false, .slice b m e]] w (ZP w (x + y)) := by
  have HX : Hid (∀ W, Below w.heap.size w W → RdD p1 W a n c xs) := fun W hW => hx.below hW
  have HY : Hid (∀ W, Below w.heap.size w W → RdD p2 W b m e ys) := fun W hW => hy.below hW
  have CX := Lib.hid cx
  have CY := Lib.hid cy
  have HS : Hid (x = -((val xs : Nat) : Int) ∧ y = ((val ys : Nat) : Int)) := ⟨hsx, hsy⟩
  have HLE := Lib.hid hle
  have hmn : n ≤ m := by
    rcases Nat.lt_or_ge m n with h | h
    · exfalso
      have := lt_of_len cy cx (by have := hx.1; have := hy.1; omega)
      omega
    · exact h
  have hr : cmpZ (val xs) (val ys) < 0 := by have := cmpZ_cases' (val xs) (val ys); omega
  clear hle
  clear hx hy cx cy hsx hsy
  go_enter Try.func111, Try.ntmps111
  go_wp2_with (go_at_call 99; refine (sizes_any _ _ _ _ _ _ xs ys _ (HX.out _ (by (with_reducible repeat (first | exact Below.refl _ _ | refine bl_alloc ?_ _ | refine bl_drew ?_ | refine bl_drewN ?_ _ | (refine bl_set ?_ ?_ _; (focus dsimp only; omega)))))) (HY.out _ (by (with_reducible repeat (first | exact Below.refl _ _ | refine bl_alloc ?_ _ | refine bl_drew ?_ | refine bl_drewN ?_ _ | (refine bl_set ?_ ?_ _; (focus dsimp only; omega)))))) CX.out CY.out (by omega) (by omega)).mono ?_; rintro v w2 ⟨rfl, hk2⟩; have hb2 := hk2.below; have ⟨r0, r1, r2, r3, r4, r5⟩ : w2.cell? ⟨w.heap.size, 0, none⟩ = some (.bool true) ∧ w2.cell? ⟨w.heap.size, 1, none⟩ = some (.slice a n c) ∧ w2.cell? ⟨w.heap.size + 1, 0, none⟩ = some (.bool false) ∧ w2.cell? ⟨w.heap.size + 1, 1, none⟩ = some (.slice b m e) ∧ w2.cell? ⟨w.heap.size + 1 + 1, 0, none⟩ = some (.bool false) ∧ w2.cell? ⟨w.heap.size + 1 + 1, 1, none⟩ = some (.slice none 0 0) := (by and_intros <;> (with_reducible repeat (first | exact r0 | exact r1 | exact r2 | exact r3 | exact r4 | exact r5 | exact r6 | exact r7 | refine kc_drew ?_ | refine kc_drewN _ ?_ | refine kc_below hb2 ?_ | (refine kc_new ?_ ?_; (focus first | rfl | (simp only [World.size_alloc, World.size_setCell, World.size_drew, size_drewN]; done)); (focus first | rfl | (simp; done))) | (refine kc_set0 ?_ ?_; (focus first | rfl | (simp; done))) | exact ct_of (by assumption) | refine ct_drew ?_ | refine ct_drewN _ ?_ | refine ct_below hb2 ?_ | (refine ct_new ?_ ?_; (focus first | rfl | (simp only [World.size_alloc, World.size_setCell, World.size_drew, size_drewN]; done)); (focus first | rfl | (simp; done))) | refine ct_set _ _ ?_ | refine ct_alloc _ ?_ | (refine kc_set ?_ ?_; (focus first | (intro hx; injection hx; omega) | (simp; done))) | refine kc_alloc _ ?_))); have ⟨r6, r7⟩ : w2.frozen? ⟨w.heap.size + 1 + 1, 0, none⟩ = false ∧ w2.frozen? ⟨w.heap.size + 1 + 1, 1, none⟩ = false := (by and_intros <;> (with_reducible repeat (first | exact r0 | exact r1 | exact r2 | exact r3 | exact r4 | exact r5 | exact r6 | exact r7 | refine kf_drew ?_ | refine kf_drewN _ ?_ | (refine kf_new ?_ _; (focus first | rfl | (simp only [World.size_alloc, World.size_setCell, World.size_drew, size_drewN]; done))) | refine kf_set _ _ ?_ | (refine kf_below hb2 ?_ ?_; (focus simp only [World.size_alloc, World.size_setCell, World.size_drew, size_drewN]; omega)) | (refine kf_alloc _ ?_ ?_; (focus first | (simp only [World.size_alloc, World.size_setCell, World.size_drew, size_drewN]; omega) | (dsimp only; omega)))))); have hB : Below w.heap.size w w2 := (by (with_reducible repeat (first | exact hB | exact Below.refl _ _ | refine bl_alloc ?_ _ | refine bl_drew ?_ | refine bl_drewN ?_ _ | (refine bl_set ?_ ?_ _; (focus dsimp only; omega)) | refine bl_call ?_ hb2))); have hz2 := hb2.size; (try simp only [World.size_alloc, World.size_drew, size_drewN] at hz2); have g2 : w.heap.size + 1 + 1 < w2.heap.size := (by omega))
  go_region_held3 (fun w' => (w'.cell? ⟨w.heap.size, 0, none⟩ = some (.bool true) ∧ w'.cell? ⟨w.heap.size, 1, none⟩ = some (.slice a n c)) ∧ w'.cell? ⟨w.heap.size + 1, 0, none⟩ = some (.bool false) ∧ w'.cell? ⟨w.heap.size + 1, 1, none⟩ = some (.slice b m e)) (((try dsimp only); (repeat' apply And.intro)) <;> (with_reducible repeat (first | exact r0 | exact r1 | exact r2 | exact r3 | refine kc_drew ?_ | refine kc_drewN _ ?_ | refine kc_below hb2 ?_ | (refine kc_new ?_ ?_; (focus first | rfl | (simp only [World.size_alloc, World.size_setCell, World.size_drew, size_drewN]; done)); (focus first | rfl | (simp; done))) | (refine kc_set0 ?_ ?_; (focus first | rfl | (simp; done))) | exact ct_of (by assumption) | refine ct_drew ?_ | refine ct_drewN _ ?_ | refine ct_below hb2 ?_ | (refine ct_new ?_ ?_; (focus first | rfl | (simp only [World.size_alloc, World.size_setCell, World.size_drew, size_drewN]; done)); (focus first | rfl | (simp; done))) | refine ct_set _ _ ?_ | refine ct_alloc _ ?_ | (refine kc_set ?_ ?_; (focus first | (intro hx; injection hx; omega) | (simp; done))) | refine kc_alloc _ ?_))) (first | (go_at_call 113; refine (less_any _ _ _ _ _ _ ys xs _ (HY.out _ (by (with_reducible repeat (first | exact hB | exact Below.refl _ _ | refine bl_alloc ?_ _ | refine bl_drew ?_ | refine bl_drewN ?_ _ | (refine bl_set ?_ ?_ _; (focus dsimp only; omega)) | refine bl_call ?_ hb2)))) (HX.out _ (by (with_reducible repeat (first | exact hB | exact Below.refl _ _ | refine bl_alloc ?_ _ | refine bl_drew ?_ | refine bl_drewN ?_ _ | (refine bl_set ?_ ?_ _; (focus dsimp only; omega)) | refine bl_call ?_ hb2)))) CY.out.1 CX.out.1 (by omega) (by omega) (by have := HLE.out; omega)).mono ?_; rintro v w2 ⟨a2, n2, c2, zs, rfl, HV, hb2⟩; have ⟨r0, r1, r2, r3, r4, r5⟩ : w2.cell? ⟨w.heap.size, 0, none⟩ = some (.bool true) ∧ w2.cell? ⟨w.heap.size, 1, none⟩ = some (.slice a n c) ∧ w2.cell? ⟨w.heap.size + 1, 0, none⟩ = some (.bool false) ∧ w2.cell? ⟨w.heap.size + 1, 1, none⟩ = some (.slice b m e) ∧ w2.cell? ⟨w.heap.size + 1 + 1, 0, none⟩ = some (.bool false) ∧ w2.cell? ⟨w.heap.size + 1 + 1, 1, none⟩ = some (.slice none 0 0) := (by and_intros <;> (with_reducible repeat (first | exact r0 | exact r1 | exact r2 | exact r3 | exact r4 | exact r5 | exact r6 | exact r7 | refine kc_drew ?_ | refine kc_drewN _ ?_ | refine kc_below hb2 ?_ | (refine kc_new ?_ ?_; (focus first | rfl | (simp only [World.size_alloc, World.size_setCell, World.size_drew, size_drewN]; done)); (focus first | rfl | (simp; done))) | (refine kc_set0 ?_ ?_; (focus first | rfl | (simp; done))) | exact ct_of (by assumption) | refine ct_drew ?_ | refine ct_drewN _ ?_ | refine ct_below hb2 ?_ | (refine ct_new ?_ ?_; (focus first | rfl | (simp only [World.size_alloc, World.size_setCell, World.size_drew, size_drewN]; done)); (focus first | rfl | (simp; done))) | refine ct_set _ _ ?_ | refine ct_alloc _ ?_ | (refine kc_set ?_ ?_; (focus first | (intro hx; injection hx; omega) | (simp; done))) | refine kc_alloc _ ?_))); have ⟨r6, r7⟩ : w2.frozen? ⟨w.heap.size + 1 + 1, 0, none⟩ = false ∧ w2.frozen? ⟨w.heap.size + 1 + 1, 1, none⟩ = false := (by and_intros <;> (with_reducible repeat (first | exact r0 | exact r1 | exact r2 | exact r3 | exact r4 | exact r5 | exact r6 | exact r7 | refine kf_drew ?_ | refine kf_drewN _ ?_ | (refine kf_new ?_ _; (focus first | rfl | (simp only [World.size_alloc, World.size_setCell, World.size_drew, size_drewN]; done))) | refine kf_set _ _ ?_ | (refine kf_below hb2 ?_ ?_; (focus simp only [World.size_alloc, World.size_setCell, World.size_drew, size_drewN]; omega)) | (refine kf_alloc _ ?_ ?_; (focus first | (simp only [World.size_alloc, World.size_setCell, World.size_drew, size_drewN]; omega) | (dsimp only; omega)))))); have hB : Below w.heap.size w w2 := (by (with_reducible repeat (first | exact hB | exact Below.refl _ _ | refine bl_alloc ?_ _ | refine bl_drew ?_ | refine bl_drewN ?_ _ | (refine bl_set ?_ ?_ _; (focus dsimp only; omega)) | refine bl_call ?_ hb2))); have hz2 := hb2.size; (try simp only [World.size_alloc, World.size_drew, size_drewN] at hz2); have g2 : w.heap.size + 1 + 1 < w2.heap.size := (by omega)) | (go_at_call 96; refine (lean_any false _ _ _ zs _ (HV.out.1.below (by (with_reducible repeat (first | exact Below.refl _ _ | refine bl_alloc ?_ _ | refine bl_drew ?_ | refine bl_drewN ?_ _ | (refine bl_set ?_ ?_ _; (focus dsimp only; omega)))))) HV.out.2.1 (by have := HV.out.2.2.2; omega)).mono ?_; rintro v w2 ⟨s3, a3, n3, c3, rfl, HZ0, hb2⟩; have HZ : Hid (Zat (w.heap.size + 3) w2 s3 a3 n3 c3 _) := (HZ0.out.mono (by (try simp only [World.size_alloc, World.size_drew, size_drewN]); omega)); clear HZ0; have ⟨r0, r1, r2, r3, r4, r5⟩ : w2.cell? ⟨w.heap.size, 0, none⟩ = some (.bool true) ∧ w2.cell? ⟨w.heap.size, 1, none⟩ = some (.slice a n c) ∧ w2.cell? ⟨w.heap.size + 1, 0, none⟩ = some (.bool false) ∧ w2.cell? ⟨w.heap.size + 1, 1, none⟩ = some (.slice b m e) ∧ w2.cell? ⟨w.heap.size + 1 + 1, 0, none⟩ = some (.bool false) ∧ w2.cell? ⟨w.heap.size + 1 + 1, 1, none⟩ = some (.slice none 0 0) := (by and_intros <;> (with_reducible repeat (first | exact r0 | exact r1 | exact r2 | exact r3 | exact r4 | exact r5 | exact r6 | exact r7 | refine kc_drew ?_ | refine kc_drewN _ ?_ | refine kc_below hb2 ?_ | (refine kc_new ?_ ?_; (focus first | rfl | (simp only [World.size_alloc, World.size_setCell, World.size_drew, size_drewN]; done)); (focus first | rfl | (simp; done))) | (refine kc_set0 ?_ ?_; (focus first | rfl | (simp; done))) | exact ct_of (by assumption) | refine ct_drew ?_ | refine ct_drewN _ ?_ | refine ct_below hb2 ?_ | (refine ct_new ?_ ?_; (focus first | rfl | (simp only [World.size_alloc, World.size_setCell, World.size_drew, size_drewN]; done)); (focus first | rfl | (simp; done))) | refine ct_set _ _ ?_ | refine ct_alloc _ ?_ | (refine kc_set ?_ ?_; (focus first | (intro hx; injection hx; omega) | (simp; done))) | refine kc_alloc _ ?_))); have ⟨r6, r7⟩ : w2.frozen? ⟨w.heap.size + 1 + 1, 0, none⟩ = false ∧ w2.frozen? ⟨w.heap.size + 1 + 1, 1, none⟩ = false := (by and_intros <;> (with_reducible repeat (first | exact r0 | exact r1 | exact r2 | exact r3 | exact r4 | exact r5 | exact r6 | exact r7 | refine kf_drew ?_ | refine kf_drewN _ ?_ | (refine kf_new ?_ _; (focus first | rfl | (simp only [World.size_alloc, World.size_setCell, World.size_drew, size_drewN]; done))) | refine kf_set _ _ ?_ | (refine kf_below hb2 ?_ ?_; (focus simp only [World.size_alloc, World.size_setCell, World.size_drew, size_drewN]; omega)) | (refine kf_alloc _ ?_ ?_; (focus first | (simp only [World.size_alloc, World.size_setCell, World.size_drew, size_drewN]; omega) | (dsimp only; omega)))))); have hB : Below w.heap.size w w2 := (by (with_reducible repeat (first | exact hB | exact Below.refl _ _ | refine bl_alloc ?_ _ | refine bl_drew ?_ | refine bl_drewN ?_ _ | (refine bl_set ?_ ?_ _; (focus dsimp only; omega)) | refine bl_call ?_ hb2))); have hz2 := hb2.size; (try simp only [World.size_alloc, World.size_drew, size_drewN] at hz2); have g2 : w.heap.size + 1 + 1 < w2.heap.size := (by omega)))
  all_goals go_wp2_with fail
  all_goals
    exact bodyPost_ret (v := .agg #[.bool s3, .slice a3 n3 c3]) (by simp [results, Try.results111, go_sem, r4, r5, g2, Nat.ne_of_lt g2]) rfl
      ⟨s3, a3, n3, c3, rfl, by
        have e := HV.out.2.2.1
        have hz := ((HZ.out.set (b := w.heap.size + 1 + 1) (o := 0) (by omega) (.bool s3)).set (b := w.heap.size + 1 + 1) (o := 1) (by omega) (.slice a3 n3 c3)).mono (show w.heap.size ≤ w.heap.size + 3 by omega)
        exact hz.eq (by have := HS.out; have := HLE.out; rw [e]; simp; omega), bl_set (by simp only; omega) (bl_set (by simp only; omega) hB _) _⟩

theorem zat_val {base : Nat} {W : World} {s : Bool} {a : Option Addr} {n c : Nat} {z : Int} (h : Zat base W s a n c z) : ∃ ds, RdD base W a n c ds ∧ Canon ds ∧ (s = false → z = ((val ds : Nat) : Int)) ∧ (s = true → z = -((val ds : Nat) : Int)) := by
  obtain ⟨hs, ds, h1, h2, h3⟩ := h
  refine ⟨ds, h1, h2, fun h => ?_, fun h => ?_⟩
  · rw [h] at hs
    have : ¬ z < 0 := by
      intro hz
      rw [decide_eq_true hz] at hs
      cases hs
    omega
  · rw [h] at hs
    have : z < 0 := of_decide_eq_true hs.symm
    omega
theorem addZ_any (s t : Bool) (a b : Option Addr) (n c m e : Nat) (x y : Int) (w : World) {p1 p2 : Nat} (hx : Zat p1 w s a n c x) (hy : Zat p2 w t b m e y) (hn : n ≤ 999999) (hm : m ≤ 999999) :
    Calls Try.prog 111 #[.agg #[.bool s, .slice a n c], .agg #[.bool t, .slice b m e]] w (ZP w (x + y)) := by
  obtain ⟨xs, h1, h2, h3, h4⟩ := zat_val hx
  obtain ⟨ys, k1, k2, k3, k4⟩ := zat_val hy
  cases s <;> cases t
  · exact add_pp a b n c m e x y xs ys w h1 k1 h2 k2 (h3 rfl) (k3 rfl) hn hm
  · rcases Nat.lt_or_ge (val xs) (val ys) with h | h
    · exact add_pm_lt a b n c m e x y xs ys w h1 k1 h2 k2 (h3 rfl) (k4 rfl) hn hm h
    · exact add_pm_ge a b n c m e x y xs ys w h1 k1 h2 k2 (h3 rfl) (k4 rfl) hn hm h
  · rcases Nat.lt_or_ge (val xs) (val ys) with h | h
    · exact add_mp_lt a b n c m e x y xs ys w h1 k1 h2 k2 (h4 rfl) (k3 rfl) hn hm h
    · exact add_mp_ge a b n c m e x y xs ys w h1 k1 h2 k2 (h4 rfl) (k3 rfl) hn hm h
  · exact add_mm a b n c m e x y xs ys w h1 k1 h2 k2 (h4 rfl) (k4 rfl) hn hm
end Go.Proofs.Ytoenimkgagndnaa

/- Numbers of any size: Sub, Cmp. -/
namespace Go.Proofs.Ytoenimkgagndnaa
set_option linter.unusedVariables false
set_option linter.unusedSimpArgs false
open Go.RowKit Go.Lib Go.Dig

set_option maxHeartbeats 4000000 in
set_option maxRecDepth 100000 in
theorem subZ_any (s t : Bool) (a b : Option Addr) (n c m e : Nat) (x y : Int) (w : World) {p1 p2 : Nat} (hx : Zat p1 w s a n c x) (hy : Zat p2 w t b m e y) (hn : n ≤ 999999) (hm : m ≤ 999999) :
    Calls Try.prog 91 #[.agg #[.bool s, .slice a n c], .agg #[.bool t, .slice b m e]] w (ZP w (x - y)) := by
  have HX : Hid (∀ W, Below w.heap.size w W → Zat p1 W s a n c x) := fun W hW => hx.below hW
  have HY : Hid (∀ W, Below w.heap.size w W → Zat p2 W t b m e y) := fun W hW => hy.below hW
  clear hx hy
  go_enter Try.func91, Try.ntmps91
  go_wp2_with fail
  go_region_held3 (fun w' => (w'.cell? ⟨w.heap.size, 0, none⟩ = some (.bool s) ∧ w'.cell? ⟨w.heap.size, 1, none⟩ = some (.slice a n c)) ∧ w'.cell? ⟨w.heap.size + 1, 0, none⟩ = some (.bool t) ∧ w'.cell? ⟨w.heap.size + 1, 1, none⟩ = some (.slice b m e)) (((try dsimp only); (repeat' apply And.intro)) <;> (with_reducible repeat (first | exact r0 | exact r1 | exact r2 | exact r3 | refine kc_drew ?_ | refine kc_drewN _ ?_ | refine kc_below hb2 ?_ | (refine kc_new ?_ ?_; (focus first | rfl | (simp only [World.size_alloc, World.size_setCell, World.size_drew, size_drewN]; done)); (focus first | rfl | (simp; done))) | (refine kc_set0 ?_ ?_; (focus first | rfl | (simp; done))) | exact ct_of (by assumption) | refine ct_drew ?_ | refine ct_drewN _ ?_ | refine ct_below hb2 ?_ | (refine ct_new ?_ ?_; (focus first | rfl | (simp only [World.size_alloc, World.size_setCell, World.size_drew, size_drewN]; done)); (focus first | rfl | (simp; done))) | refine ct_set _ _ ?_ | refine ct_alloc _ ?_ | (refine kc_set ?_ ?_; (focus first | (intro hx; injection hx; omega) | (simp; done))) | refine kc_alloc _ ?_))) (first | (go_at_call 89; refine (negZ_any _ _ _ _ _).mono ?_; rintro v w2 ⟨rfl, hk2⟩; have hb2 := hk2.below; have ⟨r0, r1, r2, r3, r4, r5⟩ : w2.cell? ⟨w.heap.size, 0, none⟩ = some (.bool s) ∧ w2.cell? ⟨w.heap.size, 1, none⟩ = some (.slice a n c) ∧ w2.cell? ⟨w.heap.size + 1, 0, none⟩ = some (.bool t) ∧ w2.cell? ⟨w.heap.size + 1, 1, none⟩ = some (.slice b m e) ∧ w2.cell? ⟨w.heap.size + 1 + 1, 0, none⟩ = some (.bool false) ∧ w2.cell? ⟨w.heap.size + 1 + 1, 1, none⟩ = some (.slice none 0 0) := (by and_intros <;> (with_reducible repeat (first | exact r0 | exact r1 | exact r2 | exact r3 | exact r4 | exact r5 | exact r6 | exact r7 | refine kc_drew ?_ | refine kc_drewN _ ?_ | refine kc_below hb2 ?_ | (refine kc_new ?_ ?_; (focus first | rfl | (simp only [World.size_alloc, World.size_setCell, World.size_drew, size_drewN]; done)); (focus first | rfl | (simp; done))) | (refine kc_set0 ?_ ?_; (focus first | rfl | (simp; done))) | exact ct_of (by assumption) | refine ct_drew ?_ | refine ct_drewN _ ?_ | refine ct_below hb2 ?_ | (refine ct_new ?_ ?_; (focus first | rfl | (simp only [World.size_alloc, World.size_setCell, World.size_drew, size_drewN]; done)); (focus first | rfl | (simp; done))) | refine ct_set _ _ ?_ | refine ct_alloc _ ?_ | (refine kc_set ?_ ?_; (focus first | (intro hx; injection hx; omega) | (simp; done))) | refine kc_alloc _ ?_))); have ⟨r6, r7⟩ : w2.frozen? ⟨w.heap.size + 1 + 1, 0, none⟩ = false ∧ w2.frozen? ⟨w.heap.size + 1 + 1, 1, none⟩ = false := (by and_intros <;> (with_reducible repeat (first | exact r0 | exact r1 | exact r2 | exact r3 | exact r4 | exact r5 | exact r6 | exact r7 | refine kf_drew ?_ | refine kf_drewN _ ?_ | (refine kf_new ?_ _; (focus first | rfl | (simp only [World.size_alloc, World.size_setCell, World.size_drew, size_drewN]; done))) | refine kf_set _ _ ?_ | (refine kf_below hb2 ?_ ?_; (focus simp only [World.size_alloc, World.size_setCell, World.size_drew, size_drewN]; omega)) | (refine kf_alloc _ ?_ ?_; (focus first | (simp only [World.size_alloc, World.size_setCell, World.size_drew, size_drewN]; omega) | (dsimp only; omega)))))); have hB : Below w.heap.size w w2 := (by (with_reducible repeat (first | exact hB | exact Below.refl _ _ | refine bl_alloc ?_ _ | refine bl_drew ?_ | refine bl_drewN ?_ _ | (refine bl_set ?_ ?_ _; (focus dsimp only; omega)) | refine bl_call ?_ hb2))); have hz2 := hb2.size; (try simp only [World.size_alloc, World.size_drew, size_drewN] at hz2); have g2 : w.heap.size + 1 + 1 < w2.heap.size := (by omega)) | (go_at_call 111; refine (addZ_any _ _ _ _ _ _ _ _ x (-y) _ (HX.out _ (by (with_reducible repeat (first | exact hB | exact Below.refl _ _ | refine bl_alloc ?_ _ | refine bl_drew ?_ | refine bl_drewN ?_ _ | (refine bl_set ?_ ?_ _; (focus dsimp only; omega)) | refine bl_call ?_ hb2)))) (HY.out _ (by (with_reducible repeat (first | exact hB | exact Below.refl _ _ | refine bl_alloc ?_ _ | refine bl_drew ?_ | refine bl_drewN ?_ _ | (refine bl_set ?_ ?_ _; (focus dsimp only; omega)) | refine bl_call ?_ hb2)))).neg (by omega) (by omega)).mono ?_; rintro v w2 ⟨s3, a3, n3, c3, rfl, HZ0, hb2⟩; have HZ : Hid (Zat (w.heap.size + 3) w2 s3 a3 n3 c3 (x + -y)) := (HZ0.out.mono (by (try simp only [World.size_alloc, World.size_drew, size_drewN]); omega)); clear HZ0; have ⟨r0, r1, r2, r3, r4, r5⟩ : w2.cell? ⟨w.heap.size, 0, none⟩ = some (.bool s) ∧ w2.cell? ⟨w.heap.size, 1, none⟩ = some (.slice a n c) ∧ w2.cell? ⟨w.heap.size + 1, 0, none⟩ = some (.bool t) ∧ w2.cell? ⟨w.heap.size + 1, 1, none⟩ = some (.slice b m e) ∧ w2.cell? ⟨w.heap.size + 1 + 1, 0, none⟩ = some (.bool false) ∧ w2.cell? ⟨w.heap.size + 1 + 1, 1, none⟩ = some (.slice none 0 0) := (by and_intros <;> (with_reducible repeat (first | exact r0 | exact r1 | exact r2 | exact r3 | exact r4 | exact r5 | exact r6 | exact r7 | refine kc_drew ?_ | refine kc_drewN _ ?_ | refine kc_below hb2 ?_ | (refine kc_new ?_ ?_; (focus first | rfl | (simp only [World.size_alloc, World.size_setCell, World.size_drew, size_drewN]; done)); (focus first | rfl | (simp; done))) | (refine kc_set0 ?_ ?_; (focus first | rfl | (simp; done))) | exact ct_of (by assumption) | refine ct_drew ?_ | refine ct_drewN _ ?_ | refine ct_below hb2 ?_ | (refine ct_new ?_ ?_; (focus first | rfl | (simp only [World.size_alloc, World.size_setCell, World.size_drew, size_drewN]; done)); (focus first | rfl | (simp; done))) | refine ct_set _ _ ?_ | refine ct_alloc _ ?_ | (refine kc_set ?_ ?_; (focus first | (intro hx; injection hx; omega) | (simp; done))) | refine kc_alloc _ ?_))); have ⟨r6, r7⟩ : w2.frozen? ⟨w.heap.size + 1 + 1, 0, none⟩ = false ∧ w2.frozen? ⟨w.heap.size + 1 + 1, 1, none⟩ = false := (by and_intros <;> (with_reducible repeat (first | exact r0 | exact r1 | exact r2 | exact r3 | exact r4 | exact r5 | exact r6 | exact r7 | refine kf_drew ?_ | refine kf_drewN _ ?_ | (refine kf_new ?_ _; (focus first | rfl | (simp only [World.size_alloc, World.size_setCell, World.size_drew, size_drewN]; done))) | refine kf_set _ _ ?_ | (refine kf_below hb2 ?_ ?_; (focus simp only [World.size_alloc, World.size_setCell, World.size_drew, size_drewN]; omega)) | (refine kf_alloc _ ?_ ?_; (focus first | (simp only [World.size_alloc, World.size_setCell, World.size_drew, size_drewN]; omega) | (dsimp only; omega)))))); have hB : Below w.heap.size w w2 := (by (with_reducible repeat (first | exact hB | exact Below.refl _ _ | refine bl_alloc ?_ _ | refine bl_drew ?_ | refine bl_drewN ?_ _ | (refine bl_set ?_ ?_ _; (focus dsimp only; omega)) | refine bl_call ?_ hb2))); have hz2 := hb2.size; (try simp only [World.size_alloc, World.size_drew, size_drewN] at hz2); have g2 : w.heap.size + 1 + 1 < w2.heap.size := (by omega)))
  all_goals go_wp2_with fail
  all_goals
    exact bodyPost_ret (v := .agg #[.bool s3, .slice a3 n3 c3]) (by simp [results, Try.results91, go_sem, r4, r5, g2, Nat.ne_of_lt g2]) rfl
      ⟨s3, a3, n3, c3, rfl, by
        have hz := ((HZ.out.set (b := w.heap.size + 1 + 1) (o := 0) (by omega) (.bool s3)).set (b := w.heap.size + 1 + 1) (o := 1) (by omega) (.slice a3 n3 c3)).mono (show w.heap.size ≤ w.heap.size + 3 by omega)
        exact hz.eq (by omega), bl_set (by simp only; omega) (bl_set (by simp only; omega) hB _) _⟩

theorem cmpZ_sub (x y : Int) : cmpZ (x - y) 0 = cmpZ x y := by
  unfold cmpZ
  split <;> split <;> (try split) <;> (try split) <;> omega

set_option maxHeartbeats 4000000 in
set_option maxRecDepth 100000 in
theorem cmp_Z_any (s t : Bool) (a b : Option Addr) (n c m e : Nat) (x y : Int) (w : World) {p1 p2 : Nat} (hx : Zat p1 w s a n c x) (hy : Zat p2 w t b m e y) (hn : n ≤ 999999) (hm : m ≤ 999999) :
    Calls Try.prog 58 #[.agg #[.bool s, .slice a n c], .agg #[.bool t, .slice b m e]] w (fun v w' => v = .returned (.int .i64 (cmpZ x y)) ∧ Below w.heap.size w w') := by
  have HX : Hid (∀ W, Below w.heap.size w W → Zat p1 W s a n c x) := fun W hW => hx.below hW
  have HY : Hid (∀ W, Below w.heap.size w W → Zat p2 W t b m e y) := fun W hW => hy.below hW
  clear hx hy
  go_enter Try.func58, Try.ntmps58
  go_wp2_with (first
    | (go_at_call 91; refine (subZ_any _ _ _ _ _ _ _ _ x y _ (HX.out _ (by (with_reducible repeat (first | exact hB | exact Below.refl _ _ | refine bl_alloc ?_ _ | refine bl_drew ?_ | refine bl_drewN ?_ _ | (refine bl_set ?_ ?_ _; (focus dsimp only; omega)) | refine bl_call ?_ hb2)))) (HY.out _ (by (with_reducible repeat (first | exact hB | exact Below.refl _ _ | refine bl_alloc ?_ _ | refine bl_drew ?_ | refine bl_drewN ?_ _ | (refine bl_set ?_ ?_ _; (focus dsimp only; omega)) | refine bl_call ?_ hb2)))) (by omega) (by omega)).mono ?_; rintro v w2 ⟨s3, a3, n3, c3, rfl, HZ, hb2⟩; have hB : Below w.heap.size w w2 := (by (with_reducible repeat (first | exact Below.refl _ _ | refine bl_alloc ?_ _ | refine bl_drew ?_ | refine bl_drewN ?_ _ | (refine bl_set ?_ ?_ _; (focus dsimp only; omega)) | refine bl_call ?_ hb2))))
    | (go_at_call 90; refine (signZ_any _ _ _ _ _).mono ?_; rintro v w3 ⟨rfl, hk3⟩; rw [HZ.out.sign, cmpZ_sub]; have hB3 : Below w.heap.size w w3 := (hB.trans (hk3.below.mono (by have := hB.size; omega)))))
  go_ret
  exact ⟨rfl, hB3⟩
end Go.Proofs.Ytoenimkgagndnaa

/- Mul of numbers of any size: the digits' arithmetic of its two loops. Plain mathematics and what the memory holds; no walk. -/
namespace Go.Dig
set_option linter.unusedVariables false
set_option linter.unusedSimpArgs false

theorem dget_set_ne {xs : List Nat} {i k d : Nat} (h : k ≠ i) : (xs.set i d).getD k 0 = xs.getD k 0 := by
  rw [List.getD_eq_getElem?_getD, List.getD_eq_getElem?_getD, List.getElem?_set_ne (Ne.symm h)]
theorem dget_set_eq {xs : List Nat} {i d : Nat} (h : i < xs.length) : (xs.set i d).getD i 0 = d := by
  rw [List.getD_eq_getElem?_getD, List.getElem?_set_self h]
  rfl
theorem dget_none {xs : List Nat} {i : Nat} (h : xs.length ≤ i) : xs.getD i 0 = 0 := by
  rw [List.getD_eq_getElem?_getD, List.getElem?_eq_none h]
  rfl

/-- At the head of a round of the outer loop. -/
structure MulO (xs ys zs : List Nat) (i : Nat) : Prop where
  len : zs.length = xs.length + ys.length + 1
  ok : Ok zs
  eq : val zs = val (xs.take i) * val ys
  z : ∀ k, i + ys.length ≤ k → zs.getD k 0 = 0
/-- At the head of a round of the inner loop. -/
structure MulI (xs ys zs : List Nat) (i j cy : Nat) : Prop where
  len : zs.length = xs.length + ys.length + 1
  ok : Ok zs
  eq : val zs + cy * 10000 ^ (i + j) = val (xs.take i) * val ys + xs.getD i 0 * val (ys.take j) * 10000 ^ i
  cy9 : cy ≤ 9999
  fin : j ≤ ys.length ∨ (j = ys.length + 1 ∧ cy = 0)
  z1 : ∀ k, i + ys.length + 1 ≤ k → zs.getD k 0 = 0
  z2 : j ≤ ys.length → zs.getD (i + ys.length) 0 = 0

theorem MulO.start (xs ys : List Nat) : MulO xs ys (List.replicate (xs.length + ys.length + 1) 0) 0 := by
  refine ⟨by simp, Ok.zeros _, by simp [val_zeros, val], fun k _ => ?_⟩
  rw [List.getD_eq_getElem?_getD, List.getElem?_replicate]
  split <;> rfl
theorem MulO.inner {xs ys zs : List Nat} {i : Nat} (h : MulO xs ys zs i) : MulI xs ys zs i 0 0 :=
  ⟨h.len, h.ok, by rw [h.eq]; simp [val], by omega, .inl (Nat.zero_le _), fun k hk => h.z k (by omega), fun _ => h.z _ (by omega)⟩
theorem MulI.outer {xs ys zs : List Nat} {i j : Nat} (h : MulI xs ys zs i j 0) (hj : ys.length ≤ j) : MulO xs ys zs (i + 1) := by
  refine ⟨h.len, h.ok, ?_, fun k hk => h.z1 k (by omega)⟩
  have e := h.eq
  rw [List.take_of_length_le hj, Nat.zero_mul, Nat.add_zero] at e
  rw [e, val_take_succ]
  grind
theorem MulI.bound {xs ys zs : List Nat} {i j cy : Nat} (h : MulI xs ys zs i j cy) (hx : Ok xs) (hy : Ok ys) : zs.getD (i + j) 0 + cy + xs.getD i 0 * ys.getD j 0 ≤ 99999999 := by
  have h1 := h.ok.getD (i + j)
  have h2 := hx.getD i
  have h3 := hy.getD j
  have h4 := h.cy9
  have : xs.getD i 0 * ys.getD j 0 ≤ 9999 * 9999 := Nat.mul_le_mul (by omega) (by omega)
  omega
theorem MulI.next {xs ys zs : List Nat} {i j cy s d q : Nat} (h : MulI xs ys zs i j cy) (hx : Ok xs) (hy : Ok ys) (hi : i < xs.length) (hgo : j < ys.length ∨ 0 < cy) (hs : s = zs.getD (i + j) 0 + cy + xs.getD i 0 * ys.getD j 0) (hd : d = s % 10000) (hq : q = s / 10000) : MulI xs ys (zs.set (i + j) d) i (j + 1) q := by
  have hb := h.bound hx hy
  rw [← hs] at hb
  have hj : j ≤ ys.length := by
    rcases h.fin with h1 | ⟨h1, h2⟩
    · exact h1
    · omega
  have hl : i + j < zs.length := by have := h.len; omega
  refine ⟨by rw [List.length_set]; exact h.len, h.ok.set _ _ (by omega), ?_, by omega, ?_, fun k hk => ?_, fun hk => ?_⟩
  · have hset := val_set (d := d) hl
    have e := mul_step (10000 ^ (i + j)) s (zs.getD (i + j) 0) cy (xs.getD i 0) (ys.getD j 0) (val zs) (val (zs.set (i + j) d)) q d hs hq hd hset
    rw [val_take_succ ys j, show i + (j + 1) = (i + j) + 1 by omega, Nat.pow_succ, e, h.eq, Nat.pow_add]
    generalize 10000 ^ i = P
    generalize 10000 ^ j = Q
    grind
  · rcases Nat.lt_or_ge j ys.length with h1 | h1
    · exact .inl (by omega)
    · have e1 : ys.getD j 0 = 0 := dget_none h1
      have e2 : zs.getD (i + j) 0 = 0 := by
        have := h.z2 hj
        rwa [show ys.length = j by omega] at this
      have := h.cy9
      rw [e1, e2, Nat.mul_zero] at hs
      exact .inr ⟨by omega, by omega⟩
  · rw [dget_set_ne (by omega)]
    exact h.z1 k hk
  · rw [dget_set_ne (by omega)]
    exact h.z2 (by omega)
end Go.Dig
namespace Go.Proofs.Ytoenimkgagndnaa
open Go.RowKit Go.Lib Go.Dig

/-- What the memory holds in Mul's loops: the boxes, and the row of the product's digits. -/
structure MulB (w : World) (s t : Bool) (a b : Option Addr) (n c m e L : Nat) (zs : List Nat) (W : World) : Prop where
  b0 : W.cell? ⟨w.heap.size, 0, none⟩ = some (.bool s)
  b1 : W.cell? ⟨w.heap.size, 1, none⟩ = some (.slice a n c)
  b2 : W.cell? ⟨w.heap.size + 1, 0, none⟩ = some (.bool t)
  b3 : W.cell? ⟨w.heap.size + 1, 1, none⟩ = some (.slice b m e)
  b4 : W.cell? ⟨w.heap.size + 1 + 1, 0, none⟩ = some (.bool false)
  b5 : W.cell? ⟨w.heap.size + 1 + 1, 1, none⟩ = some (.slice none 0 0)
  f4 : W.frozen? ⟨w.heap.size + 1 + 1, 0, none⟩ = false
  f5 : W.frozen? ⟨w.heap.size + 1 + 1, 1, none⟩ = false
  row : W.rowIs (w.heap.size + 1 + 1 + 1) 3 L (fun k => .int .i64 ((zs.getD k 0 : Nat) : Int))
  below : Below w.heap.size w W
theorem MulB.call {w : World} {s t : Bool} {a b : Option Addr} {n c m e L : Nat} {zs : List Nat} {W W1 : World} (h : MulB w s t a b n c m e L zs W) (hb : Below W.heap.size W W1) : MulB w s t a b n c m e L zs W1 :=
  ⟨kc_below hb h.b0, kc_below hb h.b1, kc_below hb h.b2, kc_below hb h.b3, kc_below hb h.b4, kc_below hb h.b5, kf_below hb (World.block_lt_of_cell? _ _ h.b4) h.f4, kf_below hb (World.block_lt_of_cell? _ _ h.b5) h.f5, h.row.of_block (hb.block _ h.row.lt), bl_call h.below hb⟩
theorem MulB.set {w : World} {s t : Bool} {a b : Option Addr} {n c m e L : Nat} {zs : List Nat} {W : World} (h : MulB w s t a b n c m e L zs W) {k d : Nat} (hk : k < zs.length) : MulB w s t a b n c m e L (zs.set k d) (W.setCell ⟨w.heap.size + 1 + 1 + 1, k, none⟩ (.int .i64 (d : Int))) := by
  refine ⟨kc_set (by intro hx; injection hx; omega) h.b0, kc_set (by intro hx; injection hx; omega) h.b1, kc_set (by intro hx; injection hx; omega) h.b2, kc_set (by intro hx; injection hx; omega) h.b3, kc_set (by intro hx; injection hx; omega) h.b4, kc_set (by intro hx; injection hx; omega) h.b5,
    kf_set _ _ h.f4, kf_set _ _ h.f5, (h.row.set k (.int .i64 (d : Int))).congr fun i _ => ?_, bl_set (by simp only; omega) h.below _⟩
  by_cases e : i = k
  · subst e
    rw [if_pos rfl, dget_set_eq hk]
  · rw [if_neg e, dget_set_ne e]
theorem MulB.rd {w : World} {s t : Bool} {a b : Option Addr} {n c m e L : Nat} {zs : List Nat} {W : World} (h : MulB w s t a b n c m e L zs W) (hl : zs.length = L) : RdD w.heap.size W (some ⟨w.heap.size + 1 + 1 + 1, 0, none⟩) L L zs :=
  ⟨hl.symm, Nat.le_refl _, .inr ⟨_, 0, by omega, rfl, fun i hi => by rw [Nat.zero_add]; exact h.row.cell hi⟩⟩
theorem Zat.lt {base : Nat} {W : World} {s : Bool} {a : Option Addr} {n c : Nat} {z : Int} (h : Zat base W s a n c z) : z.natAbs < 10000 ^ n := by
  obtain ⟨_, ds, ⟨rfl, _⟩, hc, hv⟩ := h
  rw [← hv]
  exact val_lt hc.1
theorem Zat.len_mul {base : Nat} {W : World} {s : Bool} {a : Option Addr} {k c n m : Nat} {x y : Int} (h : Zat base W s a k c (x * y)) (hx : x.natAbs < 10000 ^ n) (hy : y.natAbs < 10000 ^ m) : k ≤ n + m := by
  refine h.len ?_
  rw [Int.natAbs_mul, Nat.pow_add]
  exact Nat.mul_lt_mul'' hx hy
theorem zat_drew {base : Nat} {W : World} {s : Bool} {a : Option Addr} {n c : Nat} {z : Int} (h : Zat base W s a n c z) : Zat base W.drew s a n c z := h.below (Below.refl _ _).drew
theorem zat_drewN {base : Nat} {W : World} {s : Bool} {a : Option Addr} {n c : Nat} {z : Int} (k : Nat) (h : Zat base W s a n c z) : Zat base (W.drewN k) s a n c z := h.below (bl_drewN (Below.refl _ _) k)
theorem zat_alloc {base : Nat} {W : World} {s : Bool} {a : Option Addr} {n c : Nat} {z : Int} (o : Obj) (h : Zat base W s a n c z) : Zat base (W.alloc o) s a n c z := h.below (bl_alloc (Below.refl _ _) o)
theorem zat_set {base : Nat} {W : World} {s : Bool} {a : Option Addr} {n c : Nat} {z : Int} {b o : Nat} {u : Value} (h : Zat base W s a n c z) (hb : b < base) : Zat base (W.setCell ⟨b, o, none⟩ u) s a n c z := h.set hb u
theorem made_zeros (g t n : Nat) (W : World) (hg : W.heap.size = g) : (W.alloc (.cells (madeCells #[.int .i64 0] n) t)).rowIs g t n (fun k => .int .i64 (((List.replicate n 0).getD k 0 : Nat) : Int)) := by
  subst hg
  refine (World.rowIs_made W (.int .i64 0) n t).congr fun i hi => ?_
  rw [List.getD_eq_getElem?_getD, List.getElem?_replicate]
  split <;> rfl
end Go.Proofs.Ytoenimkgagndnaa

/- Numbers of any size: Mul. -/
namespace Go.Proofs.Ytoenimkgagndnaa
set_option linter.unusedVariables false
set_option linter.unusedSimpArgs false
open Go.RowKit Go.Lib Go.Dig

set_option maxHeartbeats 8000000 in
set_option maxRecDepth 100000 in
theorem mul_walk (s t : Bool) (a b : Option Addr) (n c m e : Nat) (xs ys : List Nat) (V : Int) (w : World) {p1 p2 : Nat} (hx : RdD p1 w a n c xs) (hy : RdD p2 w b m e ys) (cx : Ok xs) (cy : Ok ys) (hn : n ≤ 999999) (hm : m ≤ 999999)
    (hV : Hid (V = if (s != t) = true then -((val xs * val ys : Nat) : Int) else ((val xs * val ys : Nat) : Int))) :
    Calls Try.prog 65 #[.agg #[.bool s, .slice a n c], .agg #[.bool t, .slice b m e]] w (ZP w V) := by
  obtain ⟨i0, hi, hz0, hz1, hz2'⟩ := info_parts (show (Try.prog.info? 3).map (fun i => (i.zero, i.size, i.bytes)) = some (some (.int .i64 0), 1, 8) by kernel_rfl)
  have HX : Hid (∀ W, Below w.heap.size w W → RdD p1 W a n c xs) := fun W hW => hx.below hW
  have HY : Hid (∀ W, Below w.heap.size w W → RdD p2 W b m e ys) := fun W hW => hy.below hW
  have HXL := Lib.hid hx.1
  have HYL := Lib.hid hy.1
  have OX := Lib.hid cx
  have OY := Lib.hid cy
  clear hx hy cx cy
  obtain ⟨L, hL⟩ : ∃ L, L = n + m + 1 := ⟨_, rfl⟩
  have HL := Lib.hid hL
  have h1 : (n : Int) + (m : Int) + 1 = (L : Int) := by omega
  have h2 : L ≤ 1999999 := by omega
  clear hL
  have hmk := run_make_row (P := Try.prog) 35 3 i0 (.int .i64 0) Try.underlying35 hi hz0 hz1 rfl .i64 .i64 L (by rw [hz2']; omega) (by omega)
  go_enter Try.func65, Try.ntmps65
  go_wp2_with fail
  clear hmk h1
  go_loopg [6] n (fun gh t0 wr => ∃ (i : Nat) (zs : List Nat), t0 = .int .i64 i ∧ i ≤ n ∧ n - i ≤ gh ∧ Hid (MulB w s t a b n c m e L zs wr ∧ MulO xs ys zs i))
  case atStart =>
    refine ⟨0, List.replicate L 0, rfl, Nat.zero_le _, by omega, ⟨⟨?_, ?_, ?_, ?_, ?_, ?_, ?_, ?_, ?_, ?_⟩, ?_⟩⟩
    · (with_reducible repeat (first | refine kc_drew ?_ | refine kc_drewN _ ?_ | (refine kc_new ?_ ?_; (focus first | rfl | (simp only [World.size_alloc, World.size_setCell, World.size_drew, size_drewN]; done)); (focus first | rfl | (simp; done))) | (refine kc_set0 ?_ ?_; (focus first | rfl | (simp; done))) | exact ct_of (by assumption) | refine ct_drew ?_ | refine ct_drewN _ ?_ | (refine ct_new ?_ ?_; (focus first | rfl | (simp only [World.size_alloc, World.size_setCell, World.size_drew, size_drewN]; done)); (focus first | rfl | (simp; done))) | refine ct_set _ _ ?_ | refine ct_alloc _ ?_ | (refine kc_set ?_ ?_; (focus first | (intro hx; injection hx; omega) | (simp; done))) | refine kc_alloc _ ?_))
    · (with_reducible repeat (first | refine kc_drew ?_ | refine kc_drewN _ ?_ | (refine kc_new ?_ ?_; (focus first | rfl | (simp only [World.size_alloc, World.size_setCell, World.size_drew, size_drewN]; done)); (focus first | rfl | (simp; done))) | (refine kc_set0 ?_ ?_; (focus first | rfl | (simp; done))) | exact ct_of (by assumption) | refine ct_drew ?_ | refine ct_drewN _ ?_ | (refine ct_new ?_ ?_; (focus first | rfl | (simp only [World.size_alloc, World.size_setCell, World.size_drew, size_drewN]; done)); (focus first | rfl | (simp; done))) | refine ct_set _ _ ?_ | refine ct_alloc _ ?_ | (refine kc_set ?_ ?_; (focus first | (intro hx; injection hx; omega) | (simp; done))) | refine kc_alloc _ ?_))
    · (with_reducible repeat (first | refine kc_drew ?_ | refine kc_drewN _ ?_ | (refine kc_new ?_ ?_; (focus first | rfl | (simp only [World.size_alloc, World.size_setCell, World.size_drew, size_drewN]; done)); (focus first | rfl | (simp; done))) | (refine kc_set0 ?_ ?_; (focus first | rfl | (simp; done))) | exact ct_of (by assumption) | refine ct_drew ?_ | refine ct_drewN _ ?_ | (refine ct_new ?_ ?_; (focus first | rfl | (simp only [World.size_alloc, World.size_setCell, World.size_drew, size_drewN]; done)); (focus first | rfl | (simp; done))) | refine ct_set _ _ ?_ | refine ct_alloc _ ?_ | (refine kc_set ?_ ?_; (focus first | (intro hx; injection hx; omega) | (simp; done))) | refine kc_alloc _ ?_))
    · (with_reducible repeat (first | refine kc_drew ?_ | refine kc_drewN _ ?_ | (refine kc_new ?_ ?_; (focus first | rfl | (simp only [World.size_alloc, World.size_setCell, World.size_drew, size_drewN]; done)); (focus first | rfl | (simp; done))) | (refine kc_set0 ?_ ?_; (focus first | rfl | (simp; done))) | exact ct_of (by assumption) | refine ct_drew ?_ | refine ct_drewN _ ?_ | (refine ct_new ?_ ?_; (focus first | rfl | (simp only [World.size_alloc, World.size_setCell, World.size_drew, size_drewN]; done)); (focus first | rfl | (simp; done))) | refine ct_set _ _ ?_ | refine ct_alloc _ ?_ | (refine kc_set ?_ ?_; (focus first | (intro hx; injection hx; omega) | (simp; done))) | refine kc_alloc _ ?_))
    · (with_reducible repeat (first | refine kc_drew ?_ | refine kc_drewN _ ?_ | (refine kc_new ?_ ?_; (focus first | rfl | (simp only [World.size_alloc, World.size_setCell, World.size_drew, size_drewN]; done)); (focus first | rfl | (simp; done))) | (refine kc_set0 ?_ ?_; (focus first | rfl | (simp; done))) | exact ct_of (by assumption) | refine ct_drew ?_ | refine ct_drewN _ ?_ | (refine ct_new ?_ ?_; (focus first | rfl | (simp only [World.size_alloc, World.size_setCell, World.size_drew, size_drewN]; done)); (focus first | rfl | (simp; done))) | refine ct_set _ _ ?_ | refine ct_alloc _ ?_ | (refine kc_set ?_ ?_; (focus first | (intro hx; injection hx; omega) | (simp; done))) | refine kc_alloc _ ?_))
    · (with_reducible repeat (first | refine kc_drew ?_ | refine kc_drewN _ ?_ | (refine kc_new ?_ ?_; (focus first | rfl | (simp only [World.size_alloc, World.size_setCell, World.size_drew, size_drewN]; done)); (focus first | rfl | (simp; done))) | (refine kc_set0 ?_ ?_; (focus first | rfl | (simp; done))) | exact ct_of (by assumption) | refine ct_drew ?_ | refine ct_drewN _ ?_ | (refine ct_new ?_ ?_; (focus first | rfl | (simp only [World.size_alloc, World.size_setCell, World.size_drew, size_drewN]; done)); (focus first | rfl | (simp; done))) | refine ct_set _ _ ?_ | refine ct_alloc _ ?_ | (refine kc_set ?_ ?_; (focus first | (intro hx; injection hx; omega) | (simp; done))) | refine kc_alloc _ ?_))
    · (with_reducible repeat (first | refine kf_drew ?_ | refine kf_drewN _ ?_ | (refine kf_new ?_ _; (focus first | rfl | (simp only [World.size_alloc, World.size_setCell, World.size_drew, size_drewN]; done))) | refine kf_set _ _ ?_ | (refine kf_alloc _ ?_ ?_; (focus first | (simp only [World.size_alloc, World.size_setCell, World.size_drew, size_drewN]; omega) | (dsimp only; omega)))))
    · (with_reducible repeat (first | refine kf_drew ?_ | refine kf_drewN _ ?_ | (refine kf_new ?_ _; (focus first | rfl | (simp only [World.size_alloc, World.size_setCell, World.size_drew, size_drewN]; done))) | refine kf_set _ _ ?_ | (refine kf_alloc _ ?_ ?_; (focus first | (simp only [World.size_alloc, World.size_setCell, World.size_drew, size_drewN]; omega) | (dsimp only; omega)))))
    · exact made_zeros _ _ _ _ (by simp)
    · (with_reducible repeat (first | exact Below.refl _ _ | refine bl_alloc ?_ _ | refine bl_drew ?_ | refine bl_drewN ?_ _ | (refine bl_set ?_ ?_ _; (focus dsimp only; omega))))
    · have := MulO.start xs ys
      rwa [← HXL.out, ← HYL.out, ← HL.out] at this
  case round =>
    obtain ⟨i, zs, rfl, hin, hgh, hI⟩ := hrel
    have hB := hI.out.1.below
    have b0 := hI.out.1.b0
    have b1 := hI.out.1.b1
    have b2 := hI.out.1.b2
    have b3 := hI.out.1.b3
    by_cases hlt : i < n
    · have hlt' : (i : Int) < (n : Int) := by omega
      rcases (HX.out wr hB).2.2 with h | ⟨g, o, _, rfl, hX⟩
      · exfalso
        have := HXL.out
        rw [h] at this
        simp at this
        omega
      · have x9 := OX.out.getD i
        obtain ⟨x, hx⟩ : ∃ x, xs.getD i 0 = x := ⟨_, rfl⟩
        have HXE := Lib.hid hx
        rw [hx] at x9
        have HXC : Hid (∀ W, Below w.heap.size w W → W.cell? ⟨g, o + i, none⟩ = some (.int .i64 (x : Int))) := fun W hW => by
          rcases (HX.out W hW).2.2 with h | ⟨g', o', _, he, hX'⟩
          · exfalso
            have := HXL.out
            rw [h] at this
            simp at this
            omega
          · simp only [Option.some.injEq, Addr.mk.injEq, and_true] at he
            obtain ⟨rfl, rfl⟩ := he
            rw [hX' i hlt, hx]
        clear hx hX
        go_wp2_with fail
        go_loopg [7, 8] (m + 1) (fun gh u v wr => ∃ (cy j : Nat) (zs : List Nat), u = .int .i64 cy ∧ v = .int .i64 j ∧ m + 1 - j ≤ gh ∧ Hid (MulB w s t (some ⟨g, o, none⟩) b n c m e L zs wr ∧ MulI xs ys zs i j cy))
        case atStart => exact ⟨0, 0, zs, rfl, rfl, by omega, hI.out.1.call (by (with_reducible repeat (first | exact Below.refl _ _ | refine bl_alloc ?_ _ | refine bl_drew ?_ | refine bl_drewN ?_ _ | (refine bl_set ?_ ?_ _; (focus dsimp only; omega))))), hI.out.2.inner⟩
        case round =>
          clear hI hB b0 b1 b2 b3
          obtain ⟨cy, j, zs, rfl, rfl, hgh2, hJ⟩ := hrel
          have hB := hJ.out.1.below
          have b0 := hJ.out.1.b0
          have b1 := hJ.out.1.b1
          have b2 := hJ.out.1.b2
          have b3 := hJ.out.1.b3
          have c1 := HXC.out _ hB
          have cy9 := hJ.out.2.cy9
          have fin := hJ.out.2.fin
          rw [← HYL.out] at fin
          have hjm : j ≤ m + 1 := by omega
          by_cases hgo : j < m ∨ 0 < cy
          · have hjm2 : j ≤ m := by omega
            obtain ⟨k, hk⟩ : ∃ k, k = i + j := ⟨_, rfl⟩
            have k1 : (i : Int) + (j : Int) = (k : Int) := by omega
            have k2 : k < L := by have := HL.out; omega
            have k3 : (k : Int) < (L : Int) := by omega
            have hbd := hJ.out.2.bound OX.out OY.out
            have HN := fun (s0 d q : Nat) h1 h2 h3 => Lib.hid (hJ.out.2.next (s := s0) (d := d) (q := q) OX.out OY.out (by rw [← HXL.out]; exact hlt) (by rw [← HYL.out]; exact hgo) h1 h2 h3)
            have z9 := hJ.out.2.ok.getD k
            have q0 : wr.cell? ⟨w.heap.size + 1 + 1 + 1, k, none⟩ = some (.int .i64 ((zs.getD k 0 : Nat) : Int)) := hJ.out.1.row.cell k2
            have q1 := hJ.out.1.row.frozen k
            have hkl : k < zs.length := by rw [hJ.out.2.len, ← HXL.out, ← HYL.out]; have := HL.out; omega
            have HS := fun (W : World) (hW : Below wr.heap.size wr W) (d : Nat) => Lib.hid ((hJ.out.1.call hW).set (k := k) (d := d) hkl)
            clear hkl
            rw [← hk] at hbd HN
            rw [HXE.out] at hbd HN
            have HGO := Lib.hid hgo
            clear hk fin hgo
            generalize zs.getD k 0 = z at q0 z9 hbd HN
            by_cases hj : j < m
            · have hj' : (j : Int) < (m : Int) := by omega
              rcases (HY.out wr hB).2.2 with h | ⟨g2, o2, _, rfl, hY⟩
              · exfalso
                have := HYL.out
                rw [h] at this
                simp at this
                omega
              · have c2 := hY j hj
                have y9 := OY.out.getD j
                clear hY
                generalize ys.getD j 0 = y at c2 y9 hbd HN
                obtain ⟨u, hu⟩ : ∃ u, u = z + cy := ⟨_, rfl⟩
                obtain ⟨p, hp⟩ : ∃ p, p = x * y := ⟨_, rfl⟩
                obtain ⟨s0, hs0⟩ : ∃ s0, s0 = u + p := ⟨_, rfl⟩
                obtain ⟨d, hd⟩ : ∃ d, d = s0 % 10000 := ⟨_, rfl⟩
                obtain ⟨q, hq⟩ : ∃ q, q = s0 / 10000 := ⟨_, rfl⟩
                have HN2 := HN s0 d q (by rw [hs0, hu, hp]) hd hq
                rw [← hp] at hbd
                have t1 : (z : Int) + (cy : Int) = (u : Int) := by omega
                have t2 : (x : Int) * (y : Int) = (p : Int) := by rw [hp, Int.natCast_mul]
                have t3 : (u : Int) + (p : Int) = (s0 : Int) := by omega
                have t4 : (s0 : Int) % 10000 = (d : Int) := by omega
                have t5 : (s0 : Int) / 10000 = (q : Int) := by omega
                have t6 : s0 ≤ 99999999 := by omega
                have t7 : p ≤ 99999999 := by omega
                have HS2 := fun W hW => HS W hW d
                clear HN HS hp hd hq hu hs0 hbd hJ
                go_wp2_with fail
                go_quiet (fail)
                go_wp2_with fail
                go_roundg (m + 1 - (j + 1))
                case measure => omega
                case rel => exact ⟨q, j + 1, zs.set k d, by go_num, by go_num, by omega, (HS2 _ (by (with_reducible repeat (first | exact Below.refl _ _ | refine bl_alloc ?_ _ | refine bl_drew ?_ | refine bl_drewN ?_ _ | (refine bl_set ?_ ?_ _; (focus dsimp only; omega)))))).out, HN2.out⟩
            · have hj' : ¬ (j : Int) < (m : Int) := by omega
              have hy0 : ys.getD j 0 = 0 := dget_none (by rw [← HYL.out]; omega)
              rw [hy0] at hbd HN
              rw [Nat.mul_zero, Nat.add_zero] at hbd HN
              clear hy0
              obtain ⟨s0, hs0⟩ : ∃ s0, s0 = z + cy := ⟨_, rfl⟩
              obtain ⟨d, hd⟩ : ∃ d, d = s0 % 10000 := ⟨_, rfl⟩
              obtain ⟨q, hq⟩ : ∃ q, q = s0 / 10000 := ⟨_, rfl⟩
              have HN2 := HN s0 d q hs0 hd hq
              have t3 : (z : Int) + (cy : Int) = (s0 : Int) := by omega
              have t4 : (s0 : Int) % 10000 = (d : Int) := by omega
              have t5 : (s0 : Int) / 10000 = (q : Int) := by omega
              have t6 : s0 ≤ 99999999 := by omega
              have t7 : (0 : Int) < (cy : Int) := by have := HGO.out; omega
              have HS2 := fun W hW => HS W hW d
              clear HN HS hd hq hs0 hbd hJ
              go_wp2_with fail
              go_roundg (m + 1 - (j + 1))
              case measure => omega
              case rel => exact ⟨q, j + 1, zs.set k d, by go_num, by go_num, by omega, (HS2 _ (by (with_reducible repeat (first | exact Below.refl _ _ | refine bl_alloc ?_ _ | refine bl_drew ?_ | refine bl_drewN ?_ _ | (refine bl_set ?_ ?_ _; (focus dsimp only; omega)))))).out, HN2.out⟩
          · have hj' : ¬ (j : Int) < (m : Int) := by omega
            obtain rfl : cy = 0 := by omega
            have HO := Lib.hid (hJ.out.2.outer (by rw [← HYL.out]; omega))
            have HBB := Lib.hid hJ.out.1
            clear hJ fin hgo
            go_wp2_with fail
            go_roundg (n - (i + 1))
            case measure => omega
            case rel => exact ⟨i + 1, zs, by go_num, by omega, by omega, HBB.out.call (by (with_reducible repeat (first | exact Below.refl _ _ | refine bl_alloc ?_ _ | refine bl_drew ?_ | refine bl_drewN ?_ _ | (refine bl_set ?_ ?_ _; (focus dsimp only; omega))))), HO.out⟩
    · obtain rfl : i = n := by omega
      have hlt' : ¬ (i : Int) < (i : Int) := by omega
      have HF : Hid (zs.length = L ∧ Ok zs ∧ val zs = val xs * val ys) := by
        refine ⟨?_, hI.out.2.ok, ?_⟩
        · rw [hI.out.2.len, HL.out, ← HXL.out, ← HYL.out]
        · rw [hI.out.2.eq, List.take_of_length_le (by rw [← HXL.out]; omega)]
      have HR := Lib.hid (hI.out.1.rd HF.out.1)
      have r4 := hI.out.1.b4
      have r5 := hI.out.1.b5
      have f4 := hI.out.1.f4
      have f5 := hI.out.1.f5
      have hsz := hI.out.1.row.lt
      clear hI
      cases s <;> cases t
      all_goals
        go_wp2_with (go_at_call 96; refine (lean_any _ _ _ _ zs _ (HR.out.below (by (with_reducible repeat (first | exact Below.refl _ _ | refine bl_alloc ?_ _ | refine bl_drew ?_ | refine bl_drewN ?_ _ | (refine bl_set ?_ ?_ _; (focus dsimp only; omega)))))) HF.out.2.1 (by omega)).mono ?_; rintro v w2 ⟨s3, a3, n3, c3, rfl, H3, hb2⟩; have ⟨r0, r1⟩ : w2.cell? ⟨w.heap.size + 1 + 1, 0, none⟩ = some (.bool false) ∧ w2.cell? ⟨w.heap.size + 1 + 1, 1, none⟩ = some (.slice none 0 0) := (by and_intros <;> (with_reducible repeat (first | exact r4 | exact r5 | exact f4 | exact f5 | refine kc_drew ?_ | refine kc_drewN _ ?_ | refine kc_below hb2 ?_ | (refine kc_new ?_ ?_; (focus first | rfl | (simp only [World.size_alloc, World.size_setCell, World.size_drew, size_drewN]; done)); (focus first | rfl | (simp; done))) | (refine kc_set0 ?_ ?_; (focus first | rfl | (simp; done))) | exact ct_of (by assumption) | refine ct_drew ?_ | refine ct_drewN _ ?_ | refine ct_below hb2 ?_ | (refine ct_new ?_ ?_; (focus first | rfl | (simp only [World.size_alloc, World.size_setCell, World.size_drew, size_drewN]; done)); (focus first | rfl | (simp; done))) | refine ct_set _ _ ?_ | refine ct_alloc _ ?_ | (refine kc_set ?_ ?_; (focus first | (intro hx; injection hx; omega) | (simp; done))) | refine kc_alloc _ ?_))); have ⟨r2, r3⟩ : w2.frozen? ⟨w.heap.size + 1 + 1, 0, none⟩ = false ∧ w2.frozen? ⟨w.heap.size + 1 + 1, 1, none⟩ = false := (by and_intros <;> (with_reducible repeat (first | exact r4 | exact r5 | exact f4 | exact f5 | refine kf_drew ?_ | refine kf_drewN _ ?_ | (refine kf_new ?_ _; (focus first | rfl | (simp only [World.size_alloc, World.size_setCell, World.size_drew, size_drewN]; done))) | refine kf_set _ _ ?_ | (refine kf_below hb2 ?_ ?_; (focus simp only [World.size_alloc, World.size_setCell, World.size_drew, size_drewN]; omega)) | (refine kf_alloc _ ?_ ?_; (focus first | (simp only [World.size_alloc, World.size_setCell, World.size_drew, size_drewN]; omega) | (dsimp only; omega)))))); have hB2 : Below w.heap.size w w2 := (by (with_reducible repeat (first | exact hB | exact Below.refl _ _ | refine bl_alloc ?_ _ | refine bl_drew ?_ | refine bl_drewN ?_ _ | (refine bl_set ?_ ?_ _; (focus dsimp only; omega)) | refine bl_call ?_ hb2))); have hz2 := hb2.size; (try simp only [World.size_alloc, World.size_drew, size_drewN] at hz2))
      all_goals
        exact bodyPost_ret (v := .agg #[.bool s3, .slice a3 n3 c3]) (by simp [results, Try.results65, go_sem, r0, r1, (show w.heap.size + 1 + 1 < w2.heap.size by omega), Nat.ne_of_lt (show w.heap.size + 1 + 1 < w2.heap.size by omega)]) rfl
          ⟨s3, a3, n3, c3, rfl, by
            have hz := ((H3.out.mono (show w.heap.size + 3 ≤ wr.heap.size by omega)).set (b := w.heap.size + 1 + 1) (o := 0) (by omega) (.bool s3)).set (b := w.heap.size + 1 + 1) (o := 1) (by omega) (.slice a3 n3 c3)
            exact (hz.mono (by omega)).eq (by rw [HF.out.2.2]; exact hV.out.symm), bl_set (by simp only; omega) (bl_set (by simp only; omega) hB2 _) _⟩

theorem mulZ_any (s t : Bool) (a b : Option Addr) (n c m e : Nat) (x y : Int) (w : World) {p1 p2 : Nat} (hx : Zat p1 w s a n c x) (hy : Zat p2 w t b m e y) (hn : n ≤ 999999) (hm : m ≤ 999999) :
    Calls Try.prog 65 #[.agg #[.bool s, .slice a n c], .agg #[.bool t, .slice b m e]] w (ZP w (x * y)) := by
  obtain ⟨xs, h1, h2, h3, h4⟩ := zat_val hx
  obtain ⟨ys, k1, k2, k3, k4⟩ := zat_val hy
  refine mul_walk s t a b n c m e xs ys (x * y) w h1 k1 h2.1 k2.1 hn hm ?_
  show x * y = _
  cases s <;> cases t
  · rw [h3 rfl, k3 rfl]
    simp [Int.neg_mul, Int.mul_neg]
  · rw [h3 rfl, k4 rfl]
    simp [Int.neg_mul, Int.mul_neg]
  · rw [h4 rfl, k3 rfl]
    simp [Int.neg_mul, Int.mul_neg]
  · rw [h4 rfl, k4 rfl]
    simp [Int.neg_mul, Int.mul_neg]
end Go.Proofs.Ytoenimkgagndnaa

/- append([]int{d}, xs...): one digit ahead of a slice that is only read. -/
namespace Go.Proofs.Ytoenimkgagndnaa
set_option linter.unusedVariables false
set_option linter.unusedSimpArgs false
open Go.RowKit Go.Lib Go.Dig

theorem run_appP {w : World} (ty g : Nat) (d : Int) (ao : Option Addr) (m c : Nat) (xs : List Int) (hg : w.cell? ⟨g, 0, none⟩ = some (.int .i64 d)) (base : Nat) (hbg : base ≤ g) (hm : xs.length = m) (hr : xs = [] ∨ ∃ g o, ao = some ⟨g, o, none⟩ ∧ ∀ i, i < xs.length → w.cell? ⟨g, o + i, none⟩ = some (.int .i64 (xs.getD i 0)))
    (hb : m ≤ 1099511627775) :
    ∃ ao' cap' w', (Builtin.append_ #[35, 35] ty #[.slice (some ⟨g, 0, none⟩) 1 1, .slice ao m c]).run Try.prog w = .ok (.slice ao' (1 + m) cap') w' ∧ Hid (RdF base w' (.slice ao' (1 + m) cap') (d :: xs)) ∧ Below w.heap.size w w' := by
  have hgw : g < w.heap.size := World.block_lt_of_cell? _ _ hg
  obtain ⟨i0, hi, hz0, hz1, hz2⟩ := info_parts (show (Try.prog.info? 3).map (fun i => (i.zero, i.size, i.bytes)) = some (some (.int .i64 0), 1, 8) by kernel_rfl)
  have h0 : ∀ base, base ≤ g → RdF base w (.slice (some ⟨g, 0, none⟩) 1 1) [d] := fun base hb => ⟨some ⟨g, 0, none⟩, 1, rfl, Nat.le_refl _, .inr ⟨g, 0, hb, rfl, fun i hi => by
    simp only [List.length_cons, List.length_nil] at hi
    obtain rfl : i = 0 := by omega
    exact hg⟩⟩
  rcases hr with rfl | ⟨g', o, rfl, hr⟩
  · subst hm
    refine ⟨some ⟨g, 0, none⟩, 1, w, ?_, h0 base hbg, Below.refl _ _⟩
    cases ao
    all_goals simp [loadCells, loadCellsFrom, Builtin.append_, run_underlying Try.underlying35, sizeOf, typeInfo, hi, Builtin.lenOf, Builtin.firstCells, storeCells]
  · subst hm
    by_cases hx0 : xs.length = 0
    · have : xs = [] := List.eq_nil_of_length_eq_zero hx0
      subst this
      refine ⟨some ⟨g, 0, none⟩, 1, w, ?_, h0 base hbg, Below.refl _ _⟩
      simp [loadCells, loadCellsFrom, Builtin.append_, run_underlying Try.underlying35, sizeOf, typeInfo, hi, Builtin.lenOf, Builtin.firstCells, storeCells]
    · obtain ⟨v', w', hrun, ho, hgr⟩ := run_append_arg_grows (P := Try.prog) (w := w) 35 ty 3 i0 _ 1 8 Try.underlying35 hi hz0 hz1 hz2 rfl (by decide) ⟨g, 0, none⟩ 1 1 [.int .i64 d] rfl (fun j u h => by
          cases j with
          | zero =>
            simp at h
            rw [← h]
            exact hg
          | succ j => simp at h)
        ⟨g', o, none⟩ xs.length c (xs.map (Value.int .i64)) (by simp) (fun j u h => by
          obtain ⟨hj, he⟩ := List.getElem?_eq_some_iff.1 h
          simp only [List.length_map] at hj
          have := hr j hj
          rw [← he]
          simp only [List.getElem_map]
          rw [List.getD_eq_getElem?_getD, List.getElem?_eq_getElem hj, Option.getD_some] at this
          rw [Addr.add_lit]
          exact this) (by omega) (by unfold maxLen; omega) (by omega)
      have e : [Value.int .i64 d] ++ xs.map (Value.int .i64) = (d :: xs).map (Value.int .i64) := rfl
      rw [e] at ho
      obtain ⟨a', cap', rfl⟩ := own_slice ho
      exact ⟨a', cap', w', hrun, (rdF_own (by simp; omega) ho).mono (by omega), (Below.refl _ _).grown hgr (Nat.le_refl _) (fun _ h => by cases h)⟩

theorem step_appP {ops : Array Oper} {o : Oper} {a : Act} {w : World} {K : Act → World → Prop} {Q : Exit → Act → World → Prop} {E : Prop} (hgd : o.guard = none) (s x : Operand)
    (hop : o.op = Op.call { callee := Callee.builtin Builtin.append, args := #[s, x], argTypes := #[35, 35] }) (g : Nat) (hs : a.eval s = .slice (some ⟨g, 0, none⟩) 1 1)
    (ao : Option Addr) (m c : Nat) (hx : a.eval x = .slice ao m c) (d : Int) (xs : List Int) (hg : w.cell? ⟨g, 0, none⟩ = some (.int .i64 d)) (base : Nat) (hbg : base ≤ g) (hm : xs.length = m) (hr : xs = [] ∨ ∃ g o, ao = some ⟨g, o, none⟩ ∧ ∀ i, i < xs.length → w.cell? ⟨g, o + i, none⟩ = some (.int .i64 (xs.getD i 0)))
    (hb : m ≤ 1099511627775)
    (hK : ∀ ao' cap' w', Hid (RdF base w' (.slice ao' (1 + m) cap') (d :: xs)) → Below w.heap.size w w' → K (a.put o.dst (.slice ao' (1 + m) cap')) w') :
    if Region.wanted o (yielded ops a.tmps) = true then Oper.wp Try.prog o a w K Q else E := by
  have hw : Region.wanted o (yielded ops a.tmps) = true := by simp [Region.wanted, hgd]
  rw [if_pos hw]
  obtain ⟨ao', cap', w', hrun, h1, h2⟩ := run_appP (w := w) o.type g d ao m c xs hg base hbg hm hr hb
  unfold Oper.wp
  simp [execOp, hop, resolve, invoke, builtin, hs, hx, hrun, Result.andThen]
  exact hK ao' cap' w' h1 h2

theorem wpList_appP {w : World} {ops : Array Oper} {rest : List Oper} {o : Oper} {a : Act} {Q : Exit → Act → World → Prop} (hgd : o.guard = none) (s x : Operand)
    (hop : o.op = Op.call { callee := Callee.builtin Builtin.append, args := #[s, x], argTypes := #[35, 35] }) (g : Nat) (hs : a.eval s = .slice (some ⟨g, 0, none⟩) 1 1)
    (ao : Option Addr) (m c : Nat) (hx : a.eval x = .slice ao m c) (d : Int) (xs : List Int) (hg : w.cell? ⟨g, 0, none⟩ = some (.int .i64 d)) (base : Nat) (hbg : base ≤ g) (hm : xs.length = m) (hr : xs = [] ∨ ∃ g o, ao = some ⟨g, o, none⟩ ∧ ∀ i, i < xs.length → w.cell? ⟨g, o + i, none⟩ = some (.int .i64 (xs.getD i 0)))
    (hb : m ≤ 1099511627775)
    (hK : ∀ ao' cap' w', Hid (RdF base w' (.slice ao' (1 + m) cap') (d :: xs)) → Below w.heap.size w w' → wpList Try.prog ops Q rest (a.put o.dst (.slice ao' (1 + m) cap')) w') :
    wpList Try.prog ops Q (o :: rest) a w := by
  refine wpList_plain hgd fun K hK2 => ?_
  obtain ⟨ao', cap', w', hrun, h1, h2⟩ := run_appP (w := w) o.type g d ao m c xs hg base hbg hm hr hb
  unfold Oper.wp
  simp [execOp, hop, resolve, invoke, builtin, hs, hx, hrun, Result.andThen]
  exact hK2 _ _ (hK ao' cap' w' h1 h2)
end Go.Proofs.Ytoenimkgagndnaa

/- Numbers of any size: lean of a number, times. -/
namespace Go.Proofs.Ytoenimkgagndnaa
set_option linter.unusedVariables false
set_option linter.unusedSimpArgs false
open Go.RowKit Go.Lib Go.Dig

theorem field_M (s : Bool) (a : Option Addr) (n c : Nat) (w : World) : (Instr.field 37 (.agg #[.bool s, .slice a n c]) 1).run Try.prog w = .ok (.slice a n c) w := by kernel_rfl
theorem leanZ_any (s : Bool) (a : Option Addr) (n c : Nat) (z : Int) (w : World) {p : Nat} (hx : Zat p w s a n c z) (hn : n ≤ 1099511627776) :
    Calls Try.prog 96 #[.agg #[.bool s, .slice a n c]] w (ZP w z) := by
  obtain ⟨ds, h1, h2, h3, h4⟩ := zat_val hx
  refine (lean_any s a n c ds w h1 h2.1 hn).mono ?_
  rintro v w' ⟨s', a', n', c', rfl, hz, hb⟩
  exact ⟨s', a', n', c', rfl, hz.out.eq (by cases s <;> simp_all), hb⟩
theorem Zat.plus {base : Nat} {W : World} {s : Bool} {a : Option Addr} {n c : Nat} {z : Int} (h : Zat base W s a n c z) (hz : 0 ≤ z) : s = false := by
  rw [h.1]
  exact decide_eq_false (by omega)

/-- What a function returns that makes digits of a number from 0 on. -/
def SP (w : World) (z : Int) (v : Ending) (w' : World) : Prop := ∃ a n c, v = .returned (.slice a n c) ∧ Hid (Zat w.heap.size w' false a n c z) ∧ Below w.heap.size w w'

set_option maxHeartbeats 4000000 in
set_option maxRecDepth 100000 in
theorem timesZ_any (a : Option Addr) (n c : Nat) (x d : Int) (w : World) {p : Nat} (hx : Zat p w false a n c x) (hx0 : 0 ≤ x) (hn : n ≤ 99999) (d0 : 0 ≤ d) (d1 : d ≤ 10000) :
    Calls Try.prog 112 #[.slice a n c, .int .i64 d] w (SP w (x * d)) := by
  have HX : Hid (∀ W, Below w.heap.size w W → Zat p W false a n c x) := fun W hW => hx.below hW
  have HP := Lib.hid (Int.mul_nonneg hx0 d0)
  have HL := Lib.hid hx.lt
  have HD : Hid (d.natAbs < 10000 ^ 2) := (show d.natAbs < 100000000 by omega)
  clear hx
  have hfd := field_M
  go_enter Try.func112, Try.ntmps112
  go_wp2_with (first
    | (go_at_call 57; refine (intZ_any d _ (by omega) (by omega)).mono ?_; rintro v w2 ⟨s2, a2, n2, c2, rfl, H2, hb2⟩; have hB2 : Below w.heap.size w w2 := (by (with_reducible repeat (first | exact Below.refl _ _ | refine bl_alloc ?_ _ | refine bl_drew ?_ | refine bl_drewN ?_ _ | (refine bl_set ?_ ?_ _; (focus dsimp only; omega)) | refine bl_call ?_ hb2))); have hn2 : n2 ≤ 2 := (H2.out.len (k := 2) (by omega)))
    | (go_at_call 65; refine (mulZ_any _ _ _ _ _ _ _ _ x d _ (HX.out _ (by (with_reducible repeat (first | exact hB2 | exact Below.refl _ _ | refine bl_alloc ?_ _ | refine bl_drew ?_ | refine bl_drewN ?_ _ | (refine bl_set ?_ ?_ _; (focus dsimp only; omega)))))) (H2.out.below (by (with_reducible repeat (first | exact Below.refl _ _ | refine bl_alloc ?_ _ | refine bl_drew ?_ | refine bl_drewN ?_ _ | (refine bl_set ?_ ?_ _; (focus dsimp only; omega)))))) (by omega) (by omega)).mono ?_; rintro v w3 ⟨s3, a3, n3, c3, rfl, H3, hb3⟩; have hn3 : n3 ≤ n + 2 := (H3.out.len_mul HL.out HD.out); have hB3 : Below w.heap.size w w3 := (by (with_reducible repeat (first | exact hB2 | exact Below.refl _ _ | refine bl_alloc ?_ _ | refine bl_drew ?_ | refine bl_drewN ?_ _ | (refine bl_set ?_ ?_ _; (focus dsimp only; omega)) | refine bl_call ?_ hb3))))
    | (go_at_call 96; refine (leanZ_any _ _ _ _ (x * d) _ (H3.out.below (by (with_reducible repeat (first | exact Below.refl _ _ | refine bl_alloc ?_ _ | refine bl_drew ?_ | refine bl_drewN ?_ _ | (refine bl_set ?_ ?_ _; (focus dsimp only; omega)))))) (by omega)).mono ?_; rintro v w4 ⟨s4, a4, n4, c4, rfl, H4, hb4⟩; have hB4 : Below w.heap.size w w4 := (by (with_reducible repeat (first | exact hB3 | exact Below.refl _ _ | refine bl_alloc ?_ _ | refine bl_drew ?_ | refine bl_drewN ?_ _ | (refine bl_set ?_ ?_ _; (focus dsimp only; omega)) | refine bl_call ?_ hb4)))))
  go_ret
  obtain rfl := H4.out.plus HP.out
  exact ⟨a4, n4, c4, rfl, H4.out.mono hB3.size, hB4⟩
end Go.Proofs.Ytoenimkgagndnaa

/- DivMod of numbers of any size: the arithmetic of its loops. Plain mathematics; no walk. -/
namespace Go.Dig
set_option linter.unusedVariables false
set_option linter.unusedSimpArgs false

theorem ok_cons {x : Nat} {xs : List Nat} (hx : x < 10000) (h : Ok xs) : Ok (x :: xs) := fun d hd => by
  rcases List.mem_cons.1 hd with hd | hd
  · omega
  · exact h d hd
theorem drop_set {xs : List Nat} {i d : Nat} : (xs.set i d).drop (i + 1) = xs.drop (i + 1) := by
  apply List.ext_getElem?
  intro j
  rw [List.getElem?_drop, List.getElem?_drop, List.getElem?_set_ne (by omega)]

/-- At the head of a round: what is done of the quotient, and the rest. -/
structure DivO (xs qs : List Nat) (Y k r : Nat) : Prop where
  len : qs.length = xs.length
  ok : Ok qs
  eq : val (xs.drop k) = val (qs.drop k) * Y + r
  lt : r < Y
theorem DivO.start (xs : List Nat) {Y : Nat} (hY : 0 < Y) : DivO xs (List.replicate xs.length 0) Y xs.length 0 :=
  ⟨by simp, Ok.zeros _, by simp [val], hY⟩
theorem DivO.next {xs qs : List Nat} {Y i r low R : Nat} (h : DivO xs qs Y (i + 1) r) (hi : i < xs.length) (hR : R = xs.getD i 0 + 10000 * r) (h1 : Y * low ≤ R) (h2 : R < Y * (low + 1)) (h3 : low < 10000) : DivO xs (qs.set i low) Y i (R - Y * low) := by
  refine ⟨by rw [List.length_set]; exact h.len, h.ok.set _ _ h3, ?_, by rw [Nat.mul_add] at h2; omega⟩
  rw [val_drop xs i, val_drop (qs.set i low) i, drop_set, dget_set_eq (by rw [h.len]; exact hi), h.eq]
  obtain ⟨u, hu⟩ : ∃ u, R = Y * low + u := ⟨R - Y * low, by omega⟩
  rw [hu, Nat.add_sub_cancel_left]
  rw [hu] at hR
  generalize xs.getD i 0 = x at *
  generalize val (qs.drop (i + 1)) = q at *
  grind
theorem div_rest_lt {xs : List Nat} (hx : Ok xs) {Y i r R : Nat} (hr : r < Y) (hR : R = xs.getD i 0 + 10000 * r) : R < Y * 10000 := by
  have := hx.getD i
  omega
theorem div_pos {Q Y r : Nat} {x y : Int} (hy : y = ((Y : Nat) : Int)) (hx : x = ((Q * Y + r : Nat) : Int)) (hr : r < Y) : x / y = ((Q : Nat) : Int) ∧ x % y = ((r : Nat) : Int) := by
  rw [Int.ediv_emod_unique (by omega)]
  refine ⟨?_, by omega, by omega⟩
  rw [hx, hy, Int.natCast_add, Int.natCast_mul, Int.mul_comm, Int.add_comm]
theorem div_neg {Q Y r : Nat} {x y : Int} (hy : y = ((Y : Nat) : Int)) (hx : x = -((Q * Y + r : Nat) : Int)) (hr : r < Y) (h0 : 0 < r) : x / y = -((Q : Nat) : Int) - 1 ∧ x % y = y - ((r : Nat) : Int) := by
  rw [Int.ediv_emod_unique (by omega)]
  refine ⟨?_, by omega, by omega⟩
  rw [hx, hy, Int.natCast_add, Int.natCast_mul, Int.mul_sub, Int.mul_neg, Int.mul_comm]
  omega
theorem div_neg0 {Q Y : Nat} {x y : Int} (hy : y = ((Y : Nat) : Int)) (hx : x = -((Q * Y + 0 : Nat) : Int)) (hY : 0 < Y) : x / y = -((Q : Nat) : Int) ∧ x % y = 0 := by
  rw [Int.ediv_emod_unique (by omega)]
  refine ⟨?_, by omega, by omega⟩
  rw [hx, hy, Nat.add_zero, Int.natCast_mul, Int.mul_neg, Int.mul_comm]
  omega
theorem small_step {xs : List Nat} {k v : Nat} (hv : v = val (xs.drop (k + 1))) : v * 10000 + xs.getD k 0 = val (xs.drop k) := by
  rw [val_drop xs k, hv]
  omega
theorem val_drop_le (xs : List Nat) (k : Nat) : val (xs.drop k) ≤ val xs := by
  induction k generalizing xs with
  | zero => simp
  | succ k ih =>
    cases xs with
    | nil => simp
    | cons x xs =>
      have := ih xs
      simp only [List.drop_succ_cons, val]
      omega
end Go.Dig
namespace Go.Proofs.Ytoenimkgagndnaa
open Go.RowKit Go.Lib Go.Dig

theorem Zat.nn {base : Nat} {W : World} {a : Option Addr} {n c : Nat} {z : Int} (h : Zat base W false a n c z) : ∃ ds, RdD base W a n c ds ∧ Canon ds ∧ z = ((val ds : Nat) : Int) := by
  obtain ⟨ds, h1, h2, h3, _⟩ := zat_val h
  exact ⟨ds, h1, h2, h3 rfl⟩
theorem Zat.digits {base : Nat} {W : World} {s : Bool} {a : Option Addr} {n c : Nat} {z : Int} (h : Zat base W s a n c z) : Zat base W false a n c (z.natAbs : Int) := h.abs
theorem sizesZ_any (a b : Option Addr) (n c m e : Nat) (X Y : Int) (w : World) {p1 p2 : Nat} (hx : Zat p1 w false a n c X) (hy : Zat p2 w false b m e Y) (hn : n ≤ 4611686018427387904) (hm : m ≤ 4611686018427387904) :
    Calls Try.prog 99 #[.slice a n c, .slice b m e] w fun v w' => v = .returned (.int .i64 (cmpZ X Y)) ∧ Gro w w' := by
  obtain ⟨xs, h1, h2, rfl⟩ := hx.nn
  obtain ⟨ys, k1, k2, rfl⟩ := hy.nn
  exact sizes_any a b n c m e xs ys w h1 k1 h2 k2 hn hm
theorem lessZ_any (a b : Option Addr) (n c m e : Nat) (X Y : Int) (w : World) {p1 p2 : Nat} (hx : Zat p1 w false a n c X) (hy : Zat p2 w false b m e Y) (hle : Y ≤ X) (hn : n ≤ 1000000) :
    Calls Try.prog 113 #[.slice a n c, .slice b m e] w fun v w' => ∃ a' n' c' zs, v = .returned (.slice a' n' c') ∧ Hid (RdD w.heap.size w' a' n' c' zs ∧ Ok zs ∧ ((val zs : Nat) : Int) = X - Y ∧ n' ≤ n) ∧ Below w.heap.size w w' := by
  obtain ⟨xs, h1, h2, rfl⟩ := hx.nn
  obtain ⟨ys, k1, k2, rfl⟩ := hy.nn
  have hmn : m ≤ n := by
    rcases Nat.lt_or_ge n m with h | h
    · exfalso
      have := lt_of_len h2 k2 (by have := h1.1; have := k1.1; omega)
      omega
    · exact h
  refine (less_any a b n c m e xs ys w h1 k1 h2.1 k2.1 hn hmn (by omega)).mono ?_
  rintro v w' ⟨a', n', c', zs, rfl, hz, hb⟩
  exact ⟨a', n', c', zs, rfl, ⟨hz.out.1, hz.out.2.1, by have := hz.out.2.2.1; omega, hz.out.2.2.2⟩, hb⟩
theorem leanD_any (a : Option Addr) (n c : Nat) (zs : List Nat) (w : World) {p : Nat} (hx : RdD p w a n c zs) (ho : Ok zs) (hn : n ≤ 1099511627776) :
    Calls Try.prog 96 #[.agg #[.bool false, .slice a n c]] w (fun v w' => ∃ a' n' c', v = .returned (.agg #[.bool false, .slice a' n' c']) ∧ Hid (Zat w.heap.size w' false a' n' c' ((val zs : Nat) : Int)) ∧ Below w.heap.size w w') := by
  refine (lean_any false a n c zs w hx ho hn).mono ?_
  rintro v w' ⟨s', a', n', c', rfl, hz, hb⟩
  have h2 := hz.out
  rw [if_neg (by decide)] at h2
  obtain rfl := h2.plus (by omega)
  exact ⟨a', n', c', rfl, h2, hb⟩
/-- A number's digits, as append wants what it reads. -/
theorem Zat.read {base : Nat} {W : World} {a : Option Addr} {n c : Nat} {z : Int} (h : Zat base W false a n c z) : ∃ ds, (zi ds).length = n ∧ (zi ds = [] ∨ ∃ g o, a = some ⟨g, o, none⟩ ∧ ∀ i, i < (zi ds).length → W.cell? ⟨g, o + i, none⟩ = some (.int .i64 ((zi ds).getD i 0))) ∧ Ok ds ∧ z = ((val ds : Nat) : Int) := by
  obtain ⟨ds, ⟨h1, h2, h3⟩, hc, hz⟩ := h.nn
  refine ⟨ds, by rw [zi_len, h1], ?_, hc.1, hz⟩
  rcases h3 with rfl | ⟨g, o, _, h4, h5⟩
  · exact .inl rfl
  · refine .inr ⟨g, o, h4, fun i hi => ?_⟩
    rw [zi_len] at hi
    rw [zi_get]
    exact h5 i (by omega)
theorem RdD.cons {base : Nat} {W : World} {a : Option Addr} {n c d : Nat} {ds : List Nat} (hn : (zi ds).length = n) (h : RdF base W (.slice a (1 + n) c) (((d : Nat) : Int) :: zi ds)) : RdD base W a (1 + n) c (d :: ds) :=
  RdD.of (by rw [List.length_cons, ← hn, zi_len]; omega) h

/-- What the memory holds in DivMod's loops: the boxes, and the row of the quotient's digits. -/
structure DivB (w : World) (s t : Bool) (a b : Option Addr) (n c m e : Nat) (qs : List Nat) (W : World) : Prop where
  b0 : W.cell? ⟨w.heap.size, 0, none⟩ = some (.bool s)
  b1 : W.cell? ⟨w.heap.size, 1, none⟩ = some (.slice a n c)
  b2 : W.cell? ⟨w.heap.size + 1, 0, none⟩ = some (.bool t)
  b3 : W.cell? ⟨w.heap.size + 1, 1, none⟩ = some (.slice b m e)
  b4 : W.cell? ⟨w.heap.size + 1 + 1, 0, none⟩ = some (.bool false)
  b5 : W.cell? ⟨w.heap.size + 1 + 1, 1, none⟩ = some (.slice none 0 0)
  b6 : W.cell? ⟨w.heap.size + 1 + 1 + 1, 0, none⟩ = some (.bool false)
  b7 : W.cell? ⟨w.heap.size + 1 + 1 + 1, 1, none⟩ = some (.slice none 0 0)
  f4 : W.frozen? ⟨w.heap.size + 1 + 1, 0, none⟩ = false
  f5 : W.frozen? ⟨w.heap.size + 1 + 1, 1, none⟩ = false
  f6 : W.frozen? ⟨w.heap.size + 1 + 1 + 1, 0, none⟩ = false
  f7 : W.frozen? ⟨w.heap.size + 1 + 1 + 1, 1, none⟩ = false
  row : W.rowIs (w.heap.size + 1 + 1 + 1 + 1) 3 n (fun k => .int .i64 ((qs.getD k 0 : Nat) : Int))
  below : Below w.heap.size w W
theorem DivB.call {w : World} {s t : Bool} {a b : Option Addr} {n c m e : Nat} {zs : List Nat} {W W1 : World} (h : DivB w s t a b n c m e zs W) (hb : Below W.heap.size W W1) : DivB w s t a b n c m e zs W1 :=
  ⟨kc_below hb h.b0, kc_below hb h.b1, kc_below hb h.b2, kc_below hb h.b3, kc_below hb h.b4, kc_below hb h.b5, kc_below hb h.b6, kc_below hb h.b7, kf_below hb (World.block_lt_of_cell? _ _ h.b4) h.f4, kf_below hb (World.block_lt_of_cell? _ _ h.b5) h.f5, kf_below hb (World.block_lt_of_cell? _ _ h.b6) h.f6, kf_below hb (World.block_lt_of_cell? _ _ h.b7) h.f7, h.row.of_block (hb.block _ h.row.lt), bl_call h.below hb⟩
theorem DivB.set {w : World} {s t : Bool} {a b : Option Addr} {n c m e : Nat} {zs : List Nat} {W : World} (h : DivB w s t a b n c m e zs W) {k d : Nat} (hk : k < zs.length) : DivB w s t a b n c m e (zs.set k d) (W.setCell ⟨w.heap.size + 1 + 1 + 1 + 1, k, none⟩ (.int .i64 (d : Int))) := by
  refine ⟨kc_set (by intro hx; injection hx; omega) h.b0, kc_set (by intro hx; injection hx; omega) h.b1, kc_set (by intro hx; injection hx; omega) h.b2, kc_set (by intro hx; injection hx; omega) h.b3, kc_set (by intro hx; injection hx; omega) h.b4, kc_set (by intro hx; injection hx; omega) h.b5, kc_set (by intro hx; injection hx; omega) h.b6, kc_set (by intro hx; injection hx; omega) h.b7,
    kf_set _ _ h.f4, kf_set _ _ h.f5, kf_set _ _ h.f6, kf_set _ _ h.f7, (h.row.set k (.int .i64 (d : Int))).congr fun i _ => ?_, bl_set (by simp only; omega) h.below _⟩
  by_cases e : i = k
  · subst e
    rw [if_pos rfl, dget_set_eq hk]
  · rw [if_neg e, dget_set_ne e]
theorem DivB.rd {w : World} {s t : Bool} {a b : Option Addr} {n c m e : Nat} {zs : List Nat} {W : World} (h : DivB w s t a b n c m e zs W) (hl : zs.length = n) : RdD w.heap.size W (some ⟨w.heap.size + 1 + 1 + 1 + 1, 0, none⟩) n n zs :=
  ⟨hl.symm, Nat.le_refl _, .inr ⟨_, 0, by omega, rfl, fun i hi => by rw [Nat.zero_add]; exact h.row.cell hi⟩⟩

/-- What DivMod returns: the quotient, rounded down, and the rest. -/
def DivP (w : World) (x y : Int) (v : Ending) (w' : World) : Prop :=
  ∃ s a n c t b m e, v = .returned (.tuple #[.agg #[.bool s, .slice a n c], .agg #[.bool t, .slice b m e]]) ∧ Hid (Zat w.heap.size w' s a n c (x / y)) ∧ Hid (Zat w.heap.size w' t b m e (x % y)) ∧ Below w.heap.size w w'
end Go.Proofs.Ytoenimkgagndnaa
