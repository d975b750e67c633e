/- Texts that gearBest_holds reaches: Given, Lim, Srch, Best, Pick. -/
import Derived.Test.YtoenimkgagndnaaBd
import Derived.Lib.SmallJoins
import Derived.Test.YtoenimkgagndnaaBb
namespace Go.Proofs.Ytoenimkgagndnaa
set_option linter.unusedVariables false
set_option linter.unusedSimpArgs false
open Go.RowKit Go.Lib

theorem own_keeps {W W1 : World} {base size n : Nat} {e : TypeId} {v : Value} {xs : List Value} (h : W.ownsRow base e size v n xs) (hb : Below W.heap.size W W1) : W1.ownsRow base e size v n xs := by
  refine ⟨h.1, h.2.imp_right ?_⟩
  rintro ⟨g, cap, cur, hv, hl, hg, rest⟩
  have hlt : g < W.heap.size := by
    rcases Nat.lt_or_ge g W.heap.size with h | h
    · exact h
    · rw [Array.getElem?_eq_none h] at hg; cases hg
  exact ⟨g, cap, cur, hv, hl, (hb.block g hlt).trans hg, rest⟩

theorem clone_at (o g k : Nat) (a b c : Int) (W : World) (hk : k ≤ 3) (h0 : W.cell? ⟨g, o, none⟩ = some (.int .i64 a)) (h1 : W.cell? ⟨g, o + 1, none⟩ = some (.int .i64 b)) (h2 : W.cell? ⟨g, o + 2, none⟩ = some (.int .i64 c)) :
    Calls Try.prog 109 #[.slice (some ⟨g, o, none⟩) k 3] W fun e w' => ∃ (v' : Option Addr) (m : Nat), e = .returned (.slice v' k m) ∧ Hid (w'.ownsRow W.heap.size 3 1 (.slice v' k m) k (([a, b, c].take k).map (Value.int .i64))) ∧ Below W.heap.size W w' := by
  refine (Try.slices_Clone_int g o k 3 [a, b, c] W (by simpa using hk) (by omega) ?_).mono ?_
  · intro j hj
    simp at hj
    rcases (show j = 0 ∨ j = 1 ∨ j = 2 by omega) with rfl | rfl | rfl
    · exact h0
    · exact h1
    · exact h2
  · rintro e w' ⟨v, rfl, ho, _, hb⟩
    rcases Go.Joins.ownsRow_forms ho with ⟨rfl, rfl⟩ | ⟨g, m, rfl⟩
    · exact ⟨none, 0, rfl, ho, hb⟩
    · exact ⟨_, m, rfl, ho, hb⟩

/-- The first numbers of a side. -/
def Side.row (x : Side) (k : Nat) : List Value := ([x.a, x.b, x.c].take k).map (Value.int .i64)

set_option maxHeartbeats 800000 in
set_option maxRecDepth 100000 in
theorem given_any (t : Tr) (k : Nat) (w : World) (hk : k ≤ 3) (hn : t.n = k) :
    Calls Try.prog 85 #[t.val] w fun e w' => ∃ v1 v2, e = .returned (.agg #[v1, v2]) ∧ w'.ownsRow w.heap.size 3 1 v1 k (t.w.row k) ∧ w'.ownsRow w.heap.size 3 1 v2 k (t.p.row k) ∧ Below w.heap.size w w' := by
  obtain ⟨n, ⟨a, b, c, p, s⟩, ⟨a', b', c', p', s'⟩⟩ := t
  simp only at hn
  subst hn
  simp only [Tr.val, Tr.cells, Side.row] at *
  have hk0 : (0 : Int) ≤ (k : Int) := by omega
  have hk3 : (k : Int) ≤ 3 := by omega
  go_enter Try.func85, Try.ntmps85
  go_wp2_with fail
  go_region_held3 (fun w' => w'.cell? ⟨w.heap.size, 0, none⟩ = some (.int .i64 (k : Int)) ∧ w'.cell? ⟨w.heap.size, 1, none⟩ = some (.int .i64 a) ∧ w'.cell? ⟨w.heap.size, 2, none⟩ = some (.int .i64 b) ∧ w'.cell? ⟨w.heap.size, 3, none⟩ = some (.int .i64 c) ∧ w'.cell? ⟨w.heap.size, 6, none⟩ = some (.int .i64 a') ∧ w'.cell? ⟨w.heap.size, 7, none⟩ = some (.int .i64 b') ∧ w'.cell? ⟨w.heap.size, 8, none⟩ = some (.int .i64 c') ∧ there w' ⟨w.heap.size + 1, 0, none⟩ ∧ there w' ⟨w.heap.size + 1, 1, none⟩ ∧ w'.frozen? ⟨w.heap.size + 1, 0, none⟩ = false ∧ w'.frozen? ⟨w.heap.size + 1, 1, none⟩ = false ∧ w.heap.size + 2 ≤ w'.heap.size)
    (((try dsimp only); (repeat' apply And.intro)) <;> (first | ((with_reducible refine Nat.le_trans (Nat.le_refl _) ?_); (try simp only [sZ]); omega) | (repeat (first | with_reducible rfl | with_reducible exact Below.refl _ _ | with_reducible exact gro_refl _ | with_reducible refine kc_drew ?_ | with_reducible refine kc_drewN _ ?_ | with_reducible refine kf_drew ?_ | with_reducible refine kf_drewN _ ?_ | with_reducible refine kc_below hb1 ?_ | with_reducible refine kc_below hb2 ?_ | ((with_reducible refine kc_new ?_ ?_); (focus (first | with_reducible rfl | (simp only [sZ]; done))); (focus (first | rfl | (simp; done)))) | ((with_reducible refine kc_set0 ?_ ?_); (focus (first | rfl | (simp; done)))) | with_reducible refine ct_drew ?_ | with_reducible refine ct_drewN _ ?_ | with_reducible refine ct_below hb1 ?_ | with_reducible refine ct_below hb2 ?_ | ((with_reducible refine ct_new ?_ ?_); (focus (first | with_reducible rfl | (simp only [sZ]; done))); (focus (first | rfl | (simp; done)))) | with_reducible refine ct_set _ _ ?_ | with_reducible refine ct_alloc _ ?_ | ((with_reducible refine kc_set ?_ ?_); (focus (first | (intro hx; injection hx; omega) | (simp; done)))) | with_reducible refine kc_alloc _ ?_ | ((with_reducible refine kf_new ?_ _); (focus (first | with_reducible rfl | (simp only [sZ]; done)))) | with_reducible refine kf_set _ _ ?_ | ((with_reducible refine kf_below hb1 ?_ ?_); (focus (simp only [sZ]; omega))) | ((with_reducible refine kf_below hb2 ?_ ?_); (focus (simp only [sZ]; omega))) | ((with_reducible refine kf_alloc _ ?_ ?_); (focus (first | (simp only [sZ]; omega) | (dsimp only; omega)))) | with_reducible refine bl_alloc ?_ _ | with_reducible refine bl_drew ?_ | with_reducible refine bl_drewN ?_ _ | ((with_reducible refine bl_set ?_ ?_ _); (focus (dsimp only; omega))) | with_reducible refine bl_call ?_ hb1 | with_reducible refine bl_call ?_ hb2 | with_reducible refine gro_alloc ?_ _ | with_reducible refine gro_drew ?_ | with_reducible refine gro_drewN ?_ _ | ((with_reducible refine gro_set ?_ ?_ _); (focus (first | omega | (dsimp only; omega)))) | with_reducible refine gro_call ?_ hk1 | with_reducible refine gro_call ?_ hk2))))
    ((first | ((have hbq := hb1; clear hbq); go_at_call 109; refine (clone_at _ _ _ _ _ _ _ (by omega) (by first | with_reducible assumption | (repeat (first | with_reducible rfl | with_reducible exact Below.refl _ _ | with_reducible exact gro_refl _ | with_reducible refine kc_drew ?_ | with_reducible refine kc_drewN _ ?_ | with_reducible refine kf_drew ?_ | with_reducible refine kf_drewN _ ?_ | with_reducible refine kc_below hb1 ?_ | with_reducible refine kc_below hb2 ?_ | ((with_reducible refine kc_new ?_ ?_); (focus (first | with_reducible rfl | (simp only [sZ]; done))); (focus (first | rfl | (simp; done)))) | ((with_reducible refine kc_set0 ?_ ?_); (focus (first | rfl | (simp; done)))) | with_reducible refine ct_drew ?_ | with_reducible refine ct_drewN _ ?_ | with_reducible refine ct_below hb1 ?_ | with_reducible refine ct_below hb2 ?_ | ((with_reducible refine ct_new ?_ ?_); (focus (first | with_reducible rfl | (simp only [sZ]; done))); (focus (first | rfl | (simp; done)))) | with_reducible refine ct_set _ _ ?_ | with_reducible refine ct_alloc _ ?_ | ((with_reducible refine kc_set ?_ ?_); (focus (first | (intro hx; injection hx; omega) | (simp; done)))) | with_reducible refine kc_alloc _ ?_ | ((with_reducible refine kf_new ?_ _); (focus (first | with_reducible rfl | (simp only [sZ]; done)))) | with_reducible refine kf_set _ _ ?_ | ((with_reducible refine kf_below hb1 ?_ ?_); (focus (simp only [sZ]; omega))) | ((with_reducible refine kf_below hb2 ?_ ?_); (focus (simp only [sZ]; omega))) | ((with_reducible refine kf_alloc _ ?_ ?_); (focus (first | (simp only [sZ]; omega) | (dsimp only; omega)))) | with_reducible refine bl_alloc ?_ _ | with_reducible refine bl_drew ?_ | with_reducible refine bl_drewN ?_ _ | ((with_reducible refine bl_set ?_ ?_ _); (focus (dsimp only; omega))) | with_reducible refine bl_call ?_ hb1 | with_reducible refine bl_call ?_ hb2 | with_reducible refine gro_alloc ?_ _ | with_reducible refine gro_drew ?_ | with_reducible refine gro_drewN ?_ _ | ((with_reducible refine gro_set ?_ ?_ _); (focus (first | omega | (dsimp only; omega)))) | with_reducible refine gro_call ?_ hk1 | with_reducible refine gro_call ?_ hk2))) (by first | with_reducible assumption | (repeat (first | with_reducible rfl | with_reducible exact Below.refl _ _ | with_reducible exact gro_refl _ | with_reducible refine kc_drew ?_ | with_reducible refine kc_drewN _ ?_ | with_reducible refine kf_drew ?_ | with_reducible refine kf_drewN _ ?_ | with_reducible refine kc_below hb1 ?_ | with_reducible refine kc_below hb2 ?_ | ((with_reducible refine kc_new ?_ ?_); (focus (first | with_reducible rfl | (simp only [sZ]; done))); (focus (first | rfl | (simp; done)))) | ((with_reducible refine kc_set0 ?_ ?_); (focus (first | rfl | (simp; done)))) | with_reducible refine ct_drew ?_ | with_reducible refine ct_drewN _ ?_ | with_reducible refine ct_below hb1 ?_ | with_reducible refine ct_below hb2 ?_ | ((with_reducible refine ct_new ?_ ?_); (focus (first | with_reducible rfl | (simp only [sZ]; done))); (focus (first | rfl | (simp; done)))) | with_reducible refine ct_set _ _ ?_ | with_reducible refine ct_alloc _ ?_ | ((with_reducible refine kc_set ?_ ?_); (focus (first | (intro hx; injection hx; omega) | (simp; done)))) | with_reducible refine kc_alloc _ ?_ | ((with_reducible refine kf_new ?_ _); (focus (first | with_reducible rfl | (simp only [sZ]; done)))) | with_reducible refine kf_set _ _ ?_ | ((with_reducible refine kf_below hb1 ?_ ?_); (focus (simp only [sZ]; omega))) | ((with_reducible refine kf_below hb2 ?_ ?_); (focus (simp only [sZ]; omega))) | ((with_reducible refine kf_alloc _ ?_ ?_); (focus (first | (simp only [sZ]; omega) | (dsimp only; omega)))) | with_reducible refine bl_alloc ?_ _ | with_reducible refine bl_drew ?_ | with_reducible refine bl_drewN ?_ _ | ((with_reducible refine bl_set ?_ ?_ _); (focus (dsimp only; omega))) | with_reducible refine bl_call ?_ hb1 | with_reducible refine bl_call ?_ hb2 | with_reducible refine gro_alloc ?_ _ | with_reducible refine gro_drew ?_ | with_reducible refine gro_drewN ?_ _ | ((with_reducible refine gro_set ?_ ?_ _); (focus (first | omega | (dsimp only; omega)))) | with_reducible refine gro_call ?_ hk1 | with_reducible refine gro_call ?_ hk2))) (by first | with_reducible assumption | (repeat (first | with_reducible rfl | with_reducible exact Below.refl _ _ | with_reducible exact gro_refl _ | with_reducible refine kc_drew ?_ | with_reducible refine kc_drewN _ ?_ | with_reducible refine kf_drew ?_ | with_reducible refine kf_drewN _ ?_ | with_reducible refine kc_below hb1 ?_ | with_reducible refine kc_below hb2 ?_ | ((with_reducible refine kc_new ?_ ?_); (focus (first | with_reducible rfl | (simp only [sZ]; done))); (focus (first | rfl | (simp; done)))) | ((with_reducible refine kc_set0 ?_ ?_); (focus (first | rfl | (simp; done)))) | with_reducible refine ct_drew ?_ | with_reducible refine ct_drewN _ ?_ | with_reducible refine ct_below hb1 ?_ | with_reducible refine ct_below hb2 ?_ | ((with_reducible refine ct_new ?_ ?_); (focus (first | with_reducible rfl | (simp only [sZ]; done))); (focus (first | rfl | (simp; done)))) | with_reducible refine ct_set _ _ ?_ | with_reducible refine ct_alloc _ ?_ | ((with_reducible refine kc_set ?_ ?_); (focus (first | (intro hx; injection hx; omega) | (simp; done)))) | with_reducible refine kc_alloc _ ?_ | ((with_reducible refine kf_new ?_ _); (focus (first | with_reducible rfl | (simp only [sZ]; done)))) | with_reducible refine kf_set _ _ ?_ | ((with_reducible refine kf_below hb1 ?_ ?_); (focus (simp only [sZ]; omega))) | ((with_reducible refine kf_below hb2 ?_ ?_); (focus (simp only [sZ]; omega))) | ((with_reducible refine kf_alloc _ ?_ ?_); (focus (first | (simp only [sZ]; omega) | (dsimp only; omega)))) | with_reducible refine bl_alloc ?_ _ | with_reducible refine bl_drew ?_ | with_reducible refine bl_drewN ?_ _ | ((with_reducible refine bl_set ?_ ?_ _); (focus (dsimp only; omega))) | with_reducible refine bl_call ?_ hb1 | with_reducible refine bl_call ?_ hb2 | with_reducible refine gro_alloc ?_ _ | with_reducible refine gro_drew ?_ | with_reducible refine gro_drewN ?_ _ | ((with_reducible refine gro_set ?_ ?_ _); (focus (first | omega | (dsimp only; omega)))) | with_reducible refine gro_call ?_ hk1 | with_reducible refine gro_call ?_ hk2)))).mono ?_; (rintro e w2 ⟨v2, m2, rfl, ho2, hb2⟩; obtain ⟨hc2, hf2⟩ := bcell hb2; (try simp only [World.size_alloc, World.size_drew, size_drewN] at hc2 hf2); have hz2 := hb2.size; (try simp only [World.size_alloc, World.size_drew, size_drewN] at hz2); have hg2 : w.heap.size + 1 < w2.heap.size := (by omega); have r20 : w2.cell? ⟨w.heap.size + 1, 0, none⟩ = some (.slice none 0 0) := (by (repeat (first | with_reducible exact r10 | with_reducible exact r11 | with_reducible exact x10 | with_reducible exact x11 | with_reducible rfl | with_reducible exact Below.refl _ _ | with_reducible exact gro_refl _ | with_reducible refine kc_drew ?_ | with_reducible refine kc_drewN _ ?_ | with_reducible refine kf_drew ?_ | with_reducible refine kf_drewN _ ?_ | with_reducible refine kc_below hb2 ?_ | ((with_reducible refine kc_new ?_ ?_); (focus (first | with_reducible rfl | (simp only [sZ]; done))); (focus (first | rfl | (simp; done)))) | ((with_reducible refine kc_set0 ?_ ?_); (focus (first | rfl | (simp; done)))) | with_reducible exact ct_of (r10) | with_reducible exact ct_of (r11) | with_reducible exact ct_of (x10) | with_reducible exact ct_of (x11) | with_reducible refine ct_drew ?_ | with_reducible refine ct_drewN _ ?_ | with_reducible refine ct_below hb2 ?_ | ((with_reducible refine ct_new ?_ ?_); (focus (first | with_reducible rfl | (simp only [sZ]; done))); (focus (first | rfl | (simp; done)))) | with_reducible refine ct_set _ _ ?_ | with_reducible refine ct_alloc _ ?_ | ((with_reducible refine kc_set ?_ ?_); (focus (first | (intro hx; injection hx; omega) | (simp; done)))) | with_reducible refine kc_alloc _ ?_ | ((with_reducible refine kf_new ?_ _); (focus (first | with_reducible rfl | (simp only [sZ]; done)))) | with_reducible refine kf_set _ _ ?_ | ((with_reducible refine kf_below hb2 ?_ ?_); (focus (simp only [sZ]; omega))) | ((with_reducible refine kf_alloc _ ?_ ?_); (focus (first | (simp only [sZ]; omega) | (dsimp only; omega)))) | with_reducible refine bl_alloc ?_ _ | with_reducible refine bl_drew ?_ | with_reducible refine bl_drewN ?_ _ | ((with_reducible refine bl_set ?_ ?_ _); (focus (dsimp only; omega))) | with_reducible refine bl_call ?_ hb2 | with_reducible refine gro_alloc ?_ _ | with_reducible refine gro_drew ?_ | with_reducible refine gro_drewN ?_ _ | ((with_reducible refine gro_set ?_ ?_ _); (focus (first | omega | (dsimp only; omega)))) | with_reducible refine gro_call ?_ hk2))); have x20 : w2.frozen? ⟨w.heap.size + 1, 0, none⟩ = false := (by (repeat (first | with_reducible exact r10 | with_reducible exact r11 | with_reducible exact x10 | with_reducible exact x11 | with_reducible rfl | with_reducible exact Below.refl _ _ | with_reducible exact gro_refl _ | with_reducible refine kc_drew ?_ | with_reducible refine kc_drewN _ ?_ | with_reducible refine kf_drew ?_ | with_reducible refine kf_drewN _ ?_ | with_reducible refine kc_below hb2 ?_ | ((with_reducible refine kc_new ?_ ?_); (focus (first | with_reducible rfl | (simp only [sZ]; done))); (focus (first | rfl | (simp; done)))) | ((with_reducible refine kc_set0 ?_ ?_); (focus (first | rfl | (simp; done)))) | with_reducible exact ct_of (r10) | with_reducible exact ct_of (r11) | with_reducible exact ct_of (x10) | with_reducible exact ct_of (x11) | with_reducible refine ct_drew ?_ | with_reducible refine ct_drewN _ ?_ | with_reducible refine ct_below hb2 ?_ | ((with_reducible refine ct_new ?_ ?_); (focus (first | with_reducible rfl | (simp only [sZ]; done))); (focus (first | rfl | (simp; done)))) | with_reducible refine ct_set _ _ ?_ | with_reducible refine ct_alloc _ ?_ | ((with_reducible refine kc_set ?_ ?_); (focus (first | (intro hx; injection hx; omega) | (simp; done)))) | with_reducible refine kc_alloc _ ?_ | ((with_reducible refine kf_new ?_ _); (focus (first | with_reducible rfl | (simp only [sZ]; done)))) | with_reducible refine kf_set _ _ ?_ | ((with_reducible refine kf_below hb2 ?_ ?_); (focus (simp only [sZ]; omega))) | ((with_reducible refine kf_alloc _ ?_ ?_); (focus (first | (simp only [sZ]; omega) | (dsimp only; omega)))) | with_reducible refine bl_alloc ?_ _ | with_reducible refine bl_drew ?_ | with_reducible refine bl_drewN ?_ _ | ((with_reducible refine bl_set ?_ ?_ _); (focus (dsimp only; omega))) | with_reducible refine bl_call ?_ hb2 | with_reducible refine gro_alloc ?_ _ | with_reducible refine gro_drew ?_ | with_reducible refine gro_drewN ?_ _ | ((with_reducible refine gro_set ?_ ?_ _); (focus (first | omega | (dsimp only; omega)))) | with_reducible refine gro_call ?_ hk2))); have r21 : w2.cell? ⟨w.heap.size + 1, 1, none⟩ = some (.slice none 0 0) := (by (repeat (first | with_reducible exact r10 | with_reducible exact r11 | with_reducible exact x10 | with_reducible exact x11 | with_reducible rfl | with_reducible exact Below.refl _ _ | with_reducible exact gro_refl _ | with_reducible refine kc_drew ?_ | with_reducible refine kc_drewN _ ?_ | with_reducible refine kf_drew ?_ | with_reducible refine kf_drewN _ ?_ | with_reducible refine kc_below hb2 ?_ | ((with_reducible refine kc_new ?_ ?_); (focus (first | with_reducible rfl | (simp only [sZ]; done))); (focus (first | rfl | (simp; done)))) | ((with_reducible refine kc_set0 ?_ ?_); (focus (first | rfl | (simp; done)))) | with_reducible exact ct_of (r10) | with_reducible exact ct_of (r11) | with_reducible exact ct_of (x10) | with_reducible exact ct_of (x11) | with_reducible refine ct_drew ?_ | with_reducible refine ct_drewN _ ?_ | with_reducible refine ct_below hb2 ?_ | ((with_reducible refine ct_new ?_ ?_); (focus (first | with_reducible rfl | (simp only [sZ]; done))); (focus (first | rfl | (simp; done)))) | with_reducible refine ct_set _ _ ?_ | with_reducible refine ct_alloc _ ?_ | ((with_reducible refine kc_set ?_ ?_); (focus (first | (intro hx; injection hx; omega) | (simp; done)))) | with_reducible refine kc_alloc _ ?_ | ((with_reducible refine kf_new ?_ _); (focus (first | with_reducible rfl | (simp only [sZ]; done)))) | with_reducible refine kf_set _ _ ?_ | ((with_reducible refine kf_below hb2 ?_ ?_); (focus (simp only [sZ]; omega))) | ((with_reducible refine kf_alloc _ ?_ ?_); (focus (first | (simp only [sZ]; omega) | (dsimp only; omega)))) | with_reducible refine bl_alloc ?_ _ | with_reducible refine bl_drew ?_ | with_reducible refine bl_drewN ?_ _ | ((with_reducible refine bl_set ?_ ?_ _); (focus (dsimp only; omega))) | with_reducible refine bl_call ?_ hb2 | with_reducible refine gro_alloc ?_ _ | with_reducible refine gro_drew ?_ | with_reducible refine gro_drewN ?_ _ | ((with_reducible refine gro_set ?_ ?_ _); (focus (first | omega | (dsimp only; omega)))) | with_reducible refine gro_call ?_ hk2))); have x21 : w2.frozen? ⟨w.heap.size + 1, 1, none⟩ = false := (by (repeat (first | with_reducible exact r10 | with_reducible exact r11 | with_reducible exact x10 | with_reducible exact x11 | with_reducible rfl | with_reducible exact Below.refl _ _ | with_reducible exact gro_refl _ | with_reducible refine kc_drew ?_ | with_reducible refine kc_drewN _ ?_ | with_reducible refine kf_drew ?_ | with_reducible refine kf_drewN _ ?_ | with_reducible refine kc_below hb2 ?_ | ((with_reducible refine kc_new ?_ ?_); (focus (first | with_reducible rfl | (simp only [sZ]; done))); (focus (first | rfl | (simp; done)))) | ((with_reducible refine kc_set0 ?_ ?_); (focus (first | rfl | (simp; done)))) | with_reducible exact ct_of (r10) | with_reducible exact ct_of (r11) | with_reducible exact ct_of (x10) | with_reducible exact ct_of (x11) | with_reducible refine ct_drew ?_ | with_reducible refine ct_drewN _ ?_ | with_reducible refine ct_below hb2 ?_ | ((with_reducible refine ct_new ?_ ?_); (focus (first | with_reducible rfl | (simp only [sZ]; done))); (focus (first | rfl | (simp; done)))) | with_reducible refine ct_set _ _ ?_ | with_reducible refine ct_alloc _ ?_ | ((with_reducible refine kc_set ?_ ?_); (focus (first | (intro hx; injection hx; omega) | (simp; done)))) | with_reducible refine kc_alloc _ ?_ | ((with_reducible refine kf_new ?_ _); (focus (first | with_reducible rfl | (simp only [sZ]; done)))) | with_reducible refine kf_set _ _ ?_ | ((with_reducible refine kf_below hb2 ?_ ?_); (focus (simp only [sZ]; omega))) | ((with_reducible refine kf_alloc _ ?_ ?_); (focus (first | (simp only [sZ]; omega) | (dsimp only; omega)))) | with_reducible refine bl_alloc ?_ _ | with_reducible refine bl_drew ?_ | with_reducible refine bl_drewN ?_ _ | ((with_reducible refine bl_set ?_ ?_ _); (focus (dsimp only; omega))) | with_reducible refine bl_call ?_ hb2 | with_reducible refine gro_alloc ?_ _ | with_reducible refine gro_drew ?_ | with_reducible refine gro_drewN ?_ _ | ((with_reducible refine gro_set ?_ ?_ _); (focus (first | omega | (dsimp only; omega)))) | with_reducible refine gro_call ?_ hk2))))) | (go_at_call 109; refine (clone_at _ _ _ _ _ _ _ (by omega) (by first | with_reducible assumption | (repeat (first | with_reducible rfl | with_reducible exact Below.refl _ _ | with_reducible exact gro_refl _ | with_reducible refine kc_drew ?_ | with_reducible refine kc_drewN _ ?_ | with_reducible refine kf_drew ?_ | with_reducible refine kf_drewN _ ?_ | with_reducible refine kc_below hb1 ?_ | with_reducible refine kc_below hb2 ?_ | ((with_reducible refine kc_new ?_ ?_); (focus (first | with_reducible rfl | (simp only [sZ]; done))); (focus (first | rfl | (simp; done)))) | ((with_reducible refine kc_set0 ?_ ?_); (focus (first | rfl | (simp; done)))) | with_reducible refine ct_drew ?_ | with_reducible refine ct_drewN _ ?_ | with_reducible refine ct_below hb1 ?_ | with_reducible refine ct_below hb2 ?_ | ((with_reducible refine ct_new ?_ ?_); (focus (first | with_reducible rfl | (simp only [sZ]; done))); (focus (first | rfl | (simp; done)))) | with_reducible refine ct_set _ _ ?_ | with_reducible refine ct_alloc _ ?_ | ((with_reducible refine kc_set ?_ ?_); (focus (first | (intro hx; injection hx; omega) | (simp; done)))) | with_reducible refine kc_alloc _ ?_ | ((with_reducible refine kf_new ?_ _); (focus (first | with_reducible rfl | (simp only [sZ]; done)))) | with_reducible refine kf_set _ _ ?_ | ((with_reducible refine kf_below hb1 ?_ ?_); (focus (simp only [sZ]; omega))) | ((with_reducible refine kf_below hb2 ?_ ?_); (focus (simp only [sZ]; omega))) | ((with_reducible refine kf_alloc _ ?_ ?_); (focus (first | (simp only [sZ]; omega) | (dsimp only; omega)))) | with_reducible refine bl_alloc ?_ _ | with_reducible refine bl_drew ?_ | with_reducible refine bl_drewN ?_ _ | ((with_reducible refine bl_set ?_ ?_ _); (focus (dsimp only; omega))) | with_reducible refine bl_call ?_ hb1 | with_reducible refine bl_call ?_ hb2 | with_reducible refine gro_alloc ?_ _ | with_reducible refine gro_drew ?_ | with_reducible refine gro_drewN ?_ _ | ((with_reducible refine gro_set ?_ ?_ _); (focus (first | omega | (dsimp only; omega)))) | with_reducible refine gro_call ?_ hk1 | with_reducible refine gro_call ?_ hk2))) (by first | with_reducible assumption | (repeat (first | with_reducible rfl | with_reducible exact Below.refl _ _ | with_reducible exact gro_refl _ | with_reducible refine kc_drew ?_ | with_reducible refine kc_drewN _ ?_ | with_reducible refine kf_drew ?_ | with_reducible refine kf_drewN _ ?_ | with_reducible refine kc_below hb1 ?_ | with_reducible refine kc_below hb2 ?_ | ((with_reducible refine kc_new ?_ ?_); (focus (first | with_reducible rfl | (simp only [sZ]; done))); (focus (first | rfl | (simp; done)))) | ((with_reducible refine kc_set0 ?_ ?_); (focus (first | rfl | (simp; done)))) | with_reducible refine ct_drew ?_ | with_reducible refine ct_drewN _ ?_ | with_reducible refine ct_below hb1 ?_ | with_reducible refine ct_below hb2 ?_ | ((with_reducible refine ct_new ?_ ?_); (focus (first | with_reducible rfl | (simp only [sZ]; done))); (focus (first | rfl | (simp; done)))) | with_reducible refine ct_set _ _ ?_ | with_reducible refine ct_alloc _ ?_ | ((with_reducible refine kc_set ?_ ?_); (focus (first | (intro hx; injection hx; omega) | (simp; done)))) | with_reducible refine kc_alloc _ ?_ | ((with_reducible refine kf_new ?_ _); (focus (first | with_reducible rfl | (simp only [sZ]; done)))) | with_reducible refine kf_set _ _ ?_ | ((with_reducible refine kf_below hb1 ?_ ?_); (focus (simp only [sZ]; omega))) | ((with_reducible refine kf_below hb2 ?_ ?_); (focus (simp only [sZ]; omega))) | ((with_reducible refine kf_alloc _ ?_ ?_); (focus (first | (simp only [sZ]; omega) | (dsimp only; omega)))) | with_reducible refine bl_alloc ?_ _ | with_reducible refine bl_drew ?_ | with_reducible refine bl_drewN ?_ _ | ((with_reducible refine bl_set ?_ ?_ _); (focus (dsimp only; omega))) | with_reducible refine bl_call ?_ hb1 | with_reducible refine bl_call ?_ hb2 | with_reducible refine gro_alloc ?_ _ | with_reducible refine gro_drew ?_ | with_reducible refine gro_drewN ?_ _ | ((with_reducible refine gro_set ?_ ?_ _); (focus (first | omega | (dsimp only; omega)))) | with_reducible refine gro_call ?_ hk1 | with_reducible refine gro_call ?_ hk2))) (by first | with_reducible assumption | (repeat (first | with_reducible rfl | with_reducible exact Below.refl _ _ | with_reducible exact gro_refl _ | with_reducible refine kc_drew ?_ | with_reducible refine kc_drewN _ ?_ | with_reducible refine kf_drew ?_ | with_reducible refine kf_drewN _ ?_ | with_reducible refine kc_below hb1 ?_ | with_reducible refine kc_below hb2 ?_ | ((with_reducible refine kc_new ?_ ?_); (focus (first | with_reducible rfl | (simp only [sZ]; done))); (focus (first | rfl | (simp; done)))) | ((with_reducible refine kc_set0 ?_ ?_); (focus (first | rfl | (simp; done)))) | with_reducible refine ct_drew ?_ | with_reducible refine ct_drewN _ ?_ | with_reducible refine ct_below hb1 ?_ | with_reducible refine ct_below hb2 ?_ | ((with_reducible refine ct_new ?_ ?_); (focus (first | with_reducible rfl | (simp only [sZ]; done))); (focus (first | rfl | (simp; done)))) | with_reducible refine ct_set _ _ ?_ | with_reducible refine ct_alloc _ ?_ | ((with_reducible refine kc_set ?_ ?_); (focus (first | (intro hx; injection hx; omega) | (simp; done)))) | with_reducible refine kc_alloc _ ?_ | ((with_reducible refine kf_new ?_ _); (focus (first | with_reducible rfl | (simp only [sZ]; done)))) | with_reducible refine kf_set _ _ ?_ | ((with_reducible refine kf_below hb1 ?_ ?_); (focus (simp only [sZ]; omega))) | ((with_reducible refine kf_below hb2 ?_ ?_); (focus (simp only [sZ]; omega))) | ((with_reducible refine kf_alloc _ ?_ ?_); (focus (first | (simp only [sZ]; omega) | (dsimp only; omega)))) | with_reducible refine bl_alloc ?_ _ | with_reducible refine bl_drew ?_ | with_reducible refine bl_drewN ?_ _ | ((with_reducible refine bl_set ?_ ?_ _); (focus (dsimp only; omega))) | with_reducible refine bl_call ?_ hb1 | with_reducible refine bl_call ?_ hb2 | with_reducible refine gro_alloc ?_ _ | with_reducible refine gro_drew ?_ | with_reducible refine gro_drewN ?_ _ | ((with_reducible refine gro_set ?_ ?_ _); (focus (first | omega | (dsimp only; omega)))) | with_reducible refine gro_call ?_ hk1 | with_reducible refine gro_call ?_ hk2)))).mono ?_; (rintro e w1 ⟨v1, m1, rfl, ho1, hb1⟩; obtain ⟨hc1, hf1⟩ := bcell hb1; (try simp only [World.size_alloc, World.size_drew, size_drewN] at hc1 hf1); have hz1 := hb1.size; (try simp only [World.size_alloc, World.size_drew, size_drewN] at hz1); have hg1 : w.heap.size + 1 < w1.heap.size := (by omega); have r10 : w1.cell? ⟨w.heap.size + 1, 0, none⟩ = some (.slice none 0 0) := (by (repeat (first | with_reducible rfl | with_reducible exact Below.refl _ _ | with_reducible exact gro_refl _ | with_reducible refine kc_drew ?_ | with_reducible refine kc_drewN _ ?_ | with_reducible refine kf_drew ?_ | with_reducible refine kf_drewN _ ?_ | with_reducible refine kc_below hb1 ?_ | ((with_reducible refine kc_new ?_ ?_); (focus (first | with_reducible rfl | (simp only [sZ]; done))); (focus (first | rfl | (simp; done)))) | ((with_reducible refine kc_set0 ?_ ?_); (focus (first | rfl | (simp; done)))) | with_reducible refine ct_drew ?_ | with_reducible refine ct_drewN _ ?_ | with_reducible refine ct_below hb1 ?_ | ((with_reducible refine ct_new ?_ ?_); (focus (first | with_reducible rfl | (simp only [sZ]; done))); (focus (first | rfl | (simp; done)))) | with_reducible refine ct_set _ _ ?_ | with_reducible refine ct_alloc _ ?_ | ((with_reducible refine kc_set ?_ ?_); (focus (first | (intro hx; injection hx; omega) | (simp; done)))) | with_reducible refine kc_alloc _ ?_ | ((with_reducible refine kf_new ?_ _); (focus (first | with_reducible rfl | (simp only [sZ]; done)))) | with_reducible refine kf_set _ _ ?_ | ((with_reducible refine kf_below hb1 ?_ ?_); (focus (simp only [sZ]; omega))) | ((with_reducible refine kf_alloc _ ?_ ?_); (focus (first | (simp only [sZ]; omega) | (dsimp only; omega)))) | with_reducible refine bl_alloc ?_ _ | with_reducible refine bl_drew ?_ | with_reducible refine bl_drewN ?_ _ | ((with_reducible refine bl_set ?_ ?_ _); (focus (dsimp only; omega))) | with_reducible refine bl_call ?_ hb1 | with_reducible refine gro_alloc ?_ _ | with_reducible refine gro_drew ?_ | with_reducible refine gro_drewN ?_ _ | ((with_reducible refine gro_set ?_ ?_ _); (focus (first | omega | (dsimp only; omega)))) | with_reducible refine gro_call ?_ hk1))); have x10 : w1.frozen? ⟨w.heap.size + 1, 0, none⟩ = false := (by (repeat (first | with_reducible rfl | with_reducible exact Below.refl _ _ | with_reducible exact gro_refl _ | with_reducible refine kc_drew ?_ | with_reducible refine kc_drewN _ ?_ | with_reducible refine kf_drew ?_ | with_reducible refine kf_drewN _ ?_ | with_reducible refine kc_below hb1 ?_ | ((with_reducible refine kc_new ?_ ?_); (focus (first | with_reducible rfl | (simp only [sZ]; done))); (focus (first | rfl | (simp; done)))) | ((with_reducible refine kc_set0 ?_ ?_); (focus (first | rfl | (simp; done)))) | with_reducible refine ct_drew ?_ | with_reducible refine ct_drewN _ ?_ | with_reducible refine ct_below hb1 ?_ | ((with_reducible refine ct_new ?_ ?_); (focus (first | with_reducible rfl | (simp only [sZ]; done))); (focus (first | rfl | (simp; done)))) | with_reducible refine ct_set _ _ ?_ | with_reducible refine ct_alloc _ ?_ | ((with_reducible refine kc_set ?_ ?_); (focus (first | (intro hx; injection hx; omega) | (simp; done)))) | with_reducible refine kc_alloc _ ?_ | ((with_reducible refine kf_new ?_ _); (focus (first | with_reducible rfl | (simp only [sZ]; done)))) | with_reducible refine kf_set _ _ ?_ | ((with_reducible refine kf_below hb1 ?_ ?_); (focus (simp only [sZ]; omega))) | ((with_reducible refine kf_alloc _ ?_ ?_); (focus (first | (simp only [sZ]; omega) | (dsimp only; omega)))) | with_reducible refine bl_alloc ?_ _ | with_reducible refine bl_drew ?_ | with_reducible refine bl_drewN ?_ _ | ((with_reducible refine bl_set ?_ ?_ _); (focus (dsimp only; omega))) | with_reducible refine bl_call ?_ hb1 | with_reducible refine gro_alloc ?_ _ | with_reducible refine gro_drew ?_ | with_reducible refine gro_drewN ?_ _ | ((with_reducible refine gro_set ?_ ?_ _); (focus (first | omega | (dsimp only; omega)))) | with_reducible refine gro_call ?_ hk1))); have r11 : w1.cell? ⟨w.heap.size + 1, 1, none⟩ = some (.slice none 0 0) := (by (repeat (first | with_reducible rfl | with_reducible exact Below.refl _ _ | with_reducible exact gro_refl _ | with_reducible refine kc_drew ?_ | with_reducible refine kc_drewN _ ?_ | with_reducible refine kf_drew ?_ | with_reducible refine kf_drewN _ ?_ | with_reducible refine kc_below hb1 ?_ | ((with_reducible refine kc_new ?_ ?_); (focus (first | with_reducible rfl | (simp only [sZ]; done))); (focus (first | rfl | (simp; done)))) | ((with_reducible refine kc_set0 ?_ ?_); (focus (first | rfl | (simp; done)))) | with_reducible refine ct_drew ?_ | with_reducible refine ct_drewN _ ?_ | with_reducible refine ct_below hb1 ?_ | ((with_reducible refine ct_new ?_ ?_); (focus (first | with_reducible rfl | (simp only [sZ]; done))); (focus (first | rfl | (simp; done)))) | with_reducible refine ct_set _ _ ?_ | with_reducible refine ct_alloc _ ?_ | ((with_reducible refine kc_set ?_ ?_); (focus (first | (intro hx; injection hx; omega) | (simp; done)))) | with_reducible refine kc_alloc _ ?_ | ((with_reducible refine kf_new ?_ _); (focus (first | with_reducible rfl | (simp only [sZ]; done)))) | with_reducible refine kf_set _ _ ?_ | ((with_reducible refine kf_below hb1 ?_ ?_); (focus (simp only [sZ]; omega))) | ((with_reducible refine kf_alloc _ ?_ ?_); (focus (first | (simp only [sZ]; omega) | (dsimp only; omega)))) | with_reducible refine bl_alloc ?_ _ | with_reducible refine bl_drew ?_ | with_reducible refine bl_drewN ?_ _ | ((with_reducible refine bl_set ?_ ?_ _); (focus (dsimp only; omega))) | with_reducible refine bl_call ?_ hb1 | with_reducible refine gro_alloc ?_ _ | with_reducible refine gro_drew ?_ | with_reducible refine gro_drewN ?_ _ | ((with_reducible refine gro_set ?_ ?_ _); (focus (first | omega | (dsimp only; omega)))) | with_reducible refine gro_call ?_ hk1))); have x11 : w1.frozen? ⟨w.heap.size + 1, 1, none⟩ = false := (by (repeat (first | with_reducible rfl | with_reducible exact Below.refl _ _ | with_reducible exact gro_refl _ | with_reducible refine kc_drew ?_ | with_reducible refine kc_drewN _ ?_ | with_reducible refine kf_drew ?_ | with_reducible refine kf_drewN _ ?_ | with_reducible refine kc_below hb1 ?_ | ((with_reducible refine kc_new ?_ ?_); (focus (first | with_reducible rfl | (simp only [sZ]; done))); (focus (first | rfl | (simp; done)))) | ((with_reducible refine kc_set0 ?_ ?_); (focus (first | rfl | (simp; done)))) | with_reducible refine ct_drew ?_ | with_reducible refine ct_drewN _ ?_ | with_reducible refine ct_below hb1 ?_ | ((with_reducible refine ct_new ?_ ?_); (focus (first | with_reducible rfl | (simp only [sZ]; done))); (focus (first | rfl | (simp; done)))) | with_reducible refine ct_set _ _ ?_ | with_reducible refine ct_alloc _ ?_ | ((with_reducible refine kc_set ?_ ?_); (focus (first | (intro hx; injection hx; omega) | (simp; done)))) | with_reducible refine kc_alloc _ ?_ | ((with_reducible refine kf_new ?_ _); (focus (first | with_reducible rfl | (simp only [sZ]; done)))) | with_reducible refine kf_set _ _ ?_ | ((with_reducible refine kf_below hb1 ?_ ?_); (focus (simp only [sZ]; omega))) | ((with_reducible refine kf_alloc _ ?_ ?_); (focus (first | (simp only [sZ]; omega) | (dsimp only; omega)))) | with_reducible refine bl_alloc ?_ _ | with_reducible refine bl_drew ?_ | with_reducible refine bl_drewN ?_ _ | ((with_reducible refine bl_set ?_ ?_ _); (focus (dsimp only; omega))) | with_reducible refine bl_call ?_ hb1 | with_reducible refine gro_alloc ?_ _ | with_reducible refine gro_drew ?_ | with_reducible refine gro_drewN ?_ _ | ((with_reducible refine gro_set ?_ ?_ _); (focus (first | omega | (dsimp only; omega)))) | with_reducible refine gro_call ?_ hk1)))))))
  go_wp2_with fail
  have hB1 : Below w.heap.size w w1 := by (repeat (first | with_reducible rfl | with_reducible exact Below.refl _ _ | with_reducible exact gro_refl _ | with_reducible refine kc_drew ?_ | with_reducible refine kc_drewN _ ?_ | with_reducible refine kf_drew ?_ | with_reducible refine kf_drewN _ ?_ | with_reducible refine kc_below hb1 ?_ | ((with_reducible refine kc_new ?_ ?_); (focus (first | with_reducible rfl | (simp only [sZ]; done))); (focus (first | rfl | (simp; done)))) | ((with_reducible refine kc_set0 ?_ ?_); (focus (first | rfl | (simp; done)))) | with_reducible refine ct_drew ?_ | with_reducible refine ct_drewN _ ?_ | with_reducible refine ct_below hb1 ?_ | ((with_reducible refine ct_new ?_ ?_); (focus (first | with_reducible rfl | (simp only [sZ]; done))); (focus (first | rfl | (simp; done)))) | with_reducible refine ct_set _ _ ?_ | with_reducible refine ct_alloc _ ?_ | ((with_reducible refine kc_set ?_ ?_); (focus (first | (intro hx; injection hx; omega) | (simp; done)))) | with_reducible refine kc_alloc _ ?_ | ((with_reducible refine kf_new ?_ _); (focus (first | with_reducible rfl | (simp only [sZ]; done)))) | with_reducible refine kf_set _ _ ?_ | ((with_reducible refine kf_below hb1 ?_ ?_); (focus (simp only [sZ]; omega))) | ((with_reducible refine kf_alloc _ ?_ ?_); (focus (first | (simp only [sZ]; omega) | (dsimp only; omega)))) | with_reducible refine bl_alloc ?_ _ | with_reducible refine bl_drew ?_ | with_reducible refine bl_drewN ?_ _ | ((with_reducible refine bl_set ?_ ?_ _); (focus (dsimp only; omega))) | with_reducible refine bl_call ?_ hb1 | with_reducible refine gro_alloc ?_ _ | with_reducible refine gro_drew ?_ | with_reducible refine gro_drewN ?_ _ | ((with_reducible refine gro_set ?_ ?_ _); (focus (first | omega | (dsimp only; omega)))) | with_reducible refine gro_call ?_ hk1))
  have hB2 : Below w.heap.size w w2 := bl_call hB1 hb2
  have ow1 := own_keeps ho1.out hb2
  have ow2 := ho2.out
  refine bodyPost_ret (v := .agg #[.slice v1 k m1, .slice v2 k m2]) (by simp [results, Try.results85, go_sem, r20, r21, hg2, Nat.ne_of_lt hg2]) rfl ⟨_, _, rfl, ?_, ?_, ?_⟩
  · refine Go.Joins.ownsRow_le (ownsRow_setCell_below (ownsRow_setCell_below ow1 ?_ _) ?_ _) ?_
    all_goals simp only [World.size_alloc, World.size_drew, size_drewN]
    all_goals omega
  · refine Go.Joins.ownsRow_le (ownsRow_setCell_below (ownsRow_setCell_below ow2 ?_ _) ?_ _) ?_
    all_goals (try dsimp only)
    all_goals omega
  · exact (hB2.setCell (by simp) _).setCell (by simp) _
end Go.Proofs.Ytoenimkgagndnaa
namespace Go.Proofs.Ytoenimkgagndnaa
set_option linter.unusedVariables false
set_option linter.unusedSimpArgs false
open Go.RowKit

/-- What validTeeth answers. -/
def vtF (low high most : Int) : Bool := decide ((1 ≤ high ∧ high ≤ 200) ∧ (1 ≤ low ∧ low ≤ high) ∧ high - low < most)

theorem validTeeth_any (low high most : Int) (w : World) :
    Calls Try.prog 98 #[.int .i64 low, .int .i64 high, .int .i64 most] w fun e w' => e = .returned (.bool (vtF low high most)) ∧ w = w' := by
  by_cases h1 : 1 ≤ high ∧ high ≤ 200
  · have e1 : decide (1 ≤ high ∧ high ≤ 200) = true := by simpa using h1
    by_cases h2 : 1 ≤ low ∧ low ≤ high
    · have e2 : decide (1 ≤ low ∧ low ≤ high) = true := by simpa using h2
      have s0 : 0 ≤ high - low := by omega
      have s1 : high - low ≤ 200 := by omega
      by_cases h3 : high - low < most
      · have E := Lib.hid (show vtF low high most = true by unfold vtF; simp; omega)
        have e3 : decide (high - low < most) = true := by simpa using h3
        go_enter Try.func98, Try.ntmps98
        go_wp2_with (go_at_call 72; refine (inRange_any _ _ _ _).mono ?_; rintro e w' ⟨rfl, rfl⟩)
        go_ret
        exact ⟨ret_bool E.out.symm, rfl⟩
      · have E := Lib.hid (show vtF low high most = false by unfold vtF; simp; omega)
        have e3 : decide (high - low < most) = false := by simpa using h3
        go_enter Try.func98, Try.ntmps98
        go_wp2_with (go_at_call 72; refine (inRange_any _ _ _ _).mono ?_; rintro e w' ⟨rfl, rfl⟩)
        go_ret
        exact ⟨ret_bool E.out.symm, rfl⟩
    · have e2 : decide (1 ≤ low ∧ low ≤ high) = false := by simpa using h2
      have E := Lib.hid (show vtF low high most = false by unfold vtF; simp; omega)
      go_enter Try.func98, Try.ntmps98
      go_wp2_with (go_at_call 72; refine (inRange_any _ _ _ _).mono ?_; rintro e w' ⟨rfl, rfl⟩)
      go_ret
      exact ⟨ret_bool E.out.symm, rfl⟩
  · have e1 : decide (1 ≤ high ∧ high ≤ 200) = false := by simpa using h1
    have E := Lib.hid (show vtF low high most = false by unfold vtF; simp; omega)
    go_enter Try.func98, Try.ntmps98
    go_wp2_with (go_at_call 72; refine (inRange_any _ _ _ _).mono ?_; rintro e w' ⟨rfl, rfl⟩)
    go_ret
    exact ⟨ret_bool E.out.symm, rfl⟩

/-- What validLimits answers. -/
def vlF (a b c d k : Int) : Bool := vtF a b 64 && (vtF c d 12 && decide (1 ≤ k ∧ k ≤ 3))

theorem validLimits_any (a b c d k : Int) (w : World) :
    Calls Try.prog 73 #[.agg #[.int .i64 a, .int .i64 b, .int .i64 c, .int .i64 d, .int .i64 k]] w fun e w' => e = .returned (.bool (vlF a b c d k)) ∧ Gro w w' := by
  have E := Lib.hid (show (vtF a b 64 && (vtF c d 12 && decide (1 ≤ k ∧ k ≤ 3))) = vlF a b c d k from rfl)
  cases h1 : vtF a b 64
  · rw [h1] at E
    go_enter Try.func73, Try.ntmps73
    go_wp2_with (go_at_call 98; refine (validTeeth_any _ _ _ _).mono ?_; rintro e w' ⟨rfl, rfl⟩)
    go_ret
    exact ⟨ret_bool (by simpa using E.out), by (repeat (first | with_reducible rfl | with_reducible exact Below.refl _ _ | with_reducible exact gro_refl _ | with_reducible refine kc_drew ?_ | with_reducible refine kc_drewN _ ?_ | with_reducible refine kf_drew ?_ | with_reducible refine kf_drewN _ ?_ | ((with_reducible refine kc_new ?_ ?_); (focus (first | with_reducible rfl | (simp only [sZ]; done))); (focus (first | rfl | (simp; done)))) | ((with_reducible refine kc_set0 ?_ ?_); (focus (first | rfl | (simp; done)))) | with_reducible refine ct_drew ?_ | with_reducible refine ct_drewN _ ?_ | ((with_reducible refine ct_new ?_ ?_); (focus (first | with_reducible rfl | (simp only [sZ]; done))); (focus (first | rfl | (simp; done)))) | with_reducible refine ct_set _ _ ?_ | with_reducible refine ct_alloc _ ?_ | ((with_reducible refine kc_set ?_ ?_); (focus (first | (intro hx; injection hx; omega) | (simp; done)))) | with_reducible refine kc_alloc _ ?_ | ((with_reducible refine kf_new ?_ _); (focus (first | with_reducible rfl | (simp only [sZ]; done)))) | with_reducible refine kf_set _ _ ?_ | ((with_reducible refine kf_alloc _ ?_ ?_); (focus (first | (simp only [sZ]; omega) | (dsimp only; omega)))) | with_reducible refine bl_alloc ?_ _ | with_reducible refine bl_drew ?_ | with_reducible refine bl_drewN ?_ _ | ((with_reducible refine bl_set ?_ ?_ _); (focus (dsimp only; omega))) | with_reducible refine gro_alloc ?_ _ | with_reducible refine gro_drew ?_ | with_reducible refine gro_drewN ?_ _ | ((with_reducible refine gro_set ?_ ?_ _); (focus (first | omega | (dsimp only; omega))))))⟩
  · cases h2 : vtF c d 12
    · rw [h1, h2] at E
      go_enter Try.func73, Try.ntmps73
      go_wp2_with (go_at_call 98; refine (validTeeth_any _ _ _ _).mono ?_; rintro e w' ⟨rfl, rfl⟩)
      go_ret
      exact ⟨ret_bool (by simpa using E.out), by (repeat (first | with_reducible rfl | with_reducible exact Below.refl _ _ | with_reducible exact gro_refl _ | with_reducible refine kc_drew ?_ | with_reducible refine kc_drewN _ ?_ | with_reducible refine kf_drew ?_ | with_reducible refine kf_drewN _ ?_ | ((with_reducible refine kc_new ?_ ?_); (focus (first | with_reducible rfl | (simp only [sZ]; done))); (focus (first | rfl | (simp; done)))) | ((with_reducible refine kc_set0 ?_ ?_); (focus (first | rfl | (simp; done)))) | with_reducible refine ct_drew ?_ | with_reducible refine ct_drewN _ ?_ | ((with_reducible refine ct_new ?_ ?_); (focus (first | with_reducible rfl | (simp only [sZ]; done))); (focus (first | rfl | (simp; done)))) | with_reducible refine ct_set _ _ ?_ | with_reducible refine ct_alloc _ ?_ | ((with_reducible refine kc_set ?_ ?_); (focus (first | (intro hx; injection hx; omega) | (simp; done)))) | with_reducible refine kc_alloc _ ?_ | ((with_reducible refine kf_new ?_ _); (focus (first | with_reducible rfl | (simp only [sZ]; done)))) | with_reducible refine kf_set _ _ ?_ | ((with_reducible refine kf_alloc _ ?_ ?_); (focus (first | (simp only [sZ]; omega) | (dsimp only; omega)))) | with_reducible refine bl_alloc ?_ _ | with_reducible refine bl_drew ?_ | with_reducible refine bl_drewN ?_ _ | ((with_reducible refine bl_set ?_ ?_ _); (focus (dsimp only; omega))) | with_reducible refine gro_alloc ?_ _ | with_reducible refine gro_drew ?_ | with_reducible refine gro_drewN ?_ _ | ((with_reducible refine gro_set ?_ ?_ _); (focus (first | omega | (dsimp only; omega))))))⟩
    · rw [h1, h2] at E
      go_enter Try.func73, Try.ntmps73
      go_wp2_with (first | (go_at_call 98; refine (validTeeth_any _ _ _ _).mono ?_; rintro e w' ⟨rfl, rfl⟩) | (go_at_call 72; refine (inRange_any _ _ _ _).mono ?_; rintro e w' ⟨rfl, rfl⟩))
      go_ret
      exact ⟨ret_bool (by simpa using E.out), by (repeat (first | with_reducible rfl | with_reducible exact Below.refl _ _ | with_reducible exact gro_refl _ | with_reducible refine kc_drew ?_ | with_reducible refine kc_drewN _ ?_ | with_reducible refine kf_drew ?_ | with_reducible refine kf_drewN _ ?_ | ((with_reducible refine kc_new ?_ ?_); (focus (first | with_reducible rfl | (simp only [sZ]; done))); (focus (first | rfl | (simp; done)))) | ((with_reducible refine kc_set0 ?_ ?_); (focus (first | rfl | (simp; done)))) | with_reducible refine ct_drew ?_ | with_reducible refine ct_drewN _ ?_ | ((with_reducible refine ct_new ?_ ?_); (focus (first | with_reducible rfl | (simp only [sZ]; done))); (focus (first | rfl | (simp; done)))) | with_reducible refine ct_set _ _ ?_ | with_reducible refine ct_alloc _ ?_ | ((with_reducible refine kc_set ?_ ?_); (focus (first | (intro hx; injection hx; omega) | (simp; done)))) | with_reducible refine kc_alloc _ ?_ | ((with_reducible refine kf_new ?_ _); (focus (first | with_reducible rfl | (simp only [sZ]; done)))) | with_reducible refine kf_set _ _ ?_ | ((with_reducible refine kf_alloc _ ?_ ?_); (focus (first | (simp only [sZ]; omega) | (dsimp only; omega)))) | with_reducible refine bl_alloc ?_ _ | with_reducible refine bl_drew ?_ | with_reducible refine bl_drewN ?_ _ | ((with_reducible refine bl_set ?_ ?_ _); (focus (dsimp only; omega))) | with_reducible refine gro_alloc ?_ _ | with_reducible refine gro_drew ?_ | with_reducible refine gro_drewN ?_ _ | ((with_reducible refine gro_set ?_ ?_ _); (focus (first | omega | (dsimp only; omega))))))⟩
end Go.Proofs.Ytoenimkgagndnaa
namespace Go.Proofs.Ytoenimkgagndnaa
set_option linter.unusedVariables false
set_option linter.unusedSimpArgs false
open Go.RowKit

/-- What checkSearch answers. -/
def csF (n d a b c e k : Int) : Int := if okF n d then (if vlF a b c e k = true ∧ 0 < n then 0 else 1) else 2

theorem checkSearch_any (n d a b c e k : Int) (w : World) (hn : -9223372036854775808 ≤ n) (hn' : n ≤ 9223372036854775807) (hd : -9223372036854775808 ≤ d) (hd' : d ≤ 9223372036854775807) :
    Calls Try.prog 81 #[.agg #[.int .i64 n, .int .i64 d], .agg #[.int .i64 a, .int .i64 b, .int .i64 c, .int .i64 e, .int .i64 k]] w fun v w' => v = .returned (.int .i64 (csF n d a b c e k)) ∧ Gro w w' := by
  by_cases h : okF n d
  · have hck := ckF_ok h
    have E1 := Lib.hid (show csF n d a b c e k = if vlF a b c e k = true ∧ 0 < n then 0 else 1 from if_pos h)
    have hC := fun W => check_any n d W hn hn' hd hd'
    rw [hck] at hC
    clear hck
    cases hv : vlF a b c e k
    · have E := Lib.hid (show csF n d a b c e k = 1 by rw [E1.out, hv]; simp)
      have hV := fun W => validLimits_any a b c e k W
      rw [hv] at hV
      clear hv h
      go_enter Try.func81, Try.ntmps81
      go_wp2_with (first | (go_at_call 20; refine (hC _).mono ?_; rintro x w1 ⟨rfl, hk1⟩; have hb1 := hk1.below; obtain ⟨hc1, hf1⟩ := bcell hb1; simp only [World.size_alloc] at hc1 hf1) | (go_at_call 73; refine (hV _).mono ?_; rintro x w2 ⟨rfl, hk2⟩; have hb2 := hk2.below))
      go_ret
      exact ⟨ret_i64 E.out.symm, by (repeat (first | with_reducible rfl | with_reducible exact Below.refl _ _ | with_reducible exact gro_refl _ | with_reducible refine kc_drew ?_ | with_reducible refine kc_drewN _ ?_ | with_reducible refine kf_drew ?_ | with_reducible refine kf_drewN _ ?_ | with_reducible refine kc_below hb2 ?_ | with_reducible refine kc_below hb1 ?_ | ((with_reducible refine kc_new ?_ ?_); (focus (first | with_reducible rfl | (simp only [sZ]; done))); (focus (first | rfl | (simp; done)))) | ((with_reducible refine kc_set0 ?_ ?_); (focus (first | rfl | (simp; done)))) | with_reducible refine ct_drew ?_ | with_reducible refine ct_drewN _ ?_ | with_reducible refine ct_below hb2 ?_ | with_reducible refine ct_below hb1 ?_ | ((with_reducible refine ct_new ?_ ?_); (focus (first | with_reducible rfl | (simp only [sZ]; done))); (focus (first | rfl | (simp; done)))) | with_reducible refine ct_set _ _ ?_ | with_reducible refine ct_alloc _ ?_ | ((with_reducible refine kc_set ?_ ?_); (focus (first | (intro hx; injection hx; omega) | (simp; done)))) | with_reducible refine kc_alloc _ ?_ | ((with_reducible refine kf_new ?_ _); (focus (first | with_reducible rfl | (simp only [sZ]; done)))) | with_reducible refine kf_set _ _ ?_ | ((with_reducible refine kf_below hb2 ?_ ?_); (focus (simp only [sZ]; omega))) | ((with_reducible refine kf_below hb1 ?_ ?_); (focus (simp only [sZ]; omega))) | ((with_reducible refine kf_alloc _ ?_ ?_); (focus (first | (simp only [sZ]; omega) | (dsimp only; omega)))) | with_reducible refine bl_alloc ?_ _ | with_reducible refine bl_drew ?_ | with_reducible refine bl_drewN ?_ _ | ((with_reducible refine bl_set ?_ ?_ _); (focus (dsimp only; omega))) | with_reducible refine bl_call ?_ hb2 | with_reducible refine bl_call ?_ hb1 | with_reducible refine gro_alloc ?_ _ | with_reducible refine gro_drew ?_ | with_reducible refine gro_drewN ?_ _ | ((with_reducible refine gro_set ?_ ?_ _); (focus (first | omega | (dsimp only; omega)))) | with_reducible refine gro_call ?_ hk2 | with_reducible refine gro_call ?_ hk1))⟩
    · have hV := fun W => validLimits_any a b c e k W
      rw [hv] at hV
      by_cases hp : 0 < n
      · have E := Lib.hid (show csF n d a b c e k = 0 by rw [E1.out, hv]; simp [hp])
        have t : decide (n ≤ 0) = false := by simpa using hp
        clear hv h
        go_enter Try.func81, Try.ntmps81
        go_wp2_with (first | (go_at_call 20; refine (hC _).mono ?_; rintro x w1 ⟨rfl, hk1⟩; have hb1 := hk1.below; obtain ⟨hc1, hf1⟩ := bcell hb1; simp only [World.size_alloc] at hc1 hf1) | (go_at_call 73; refine (hV _).mono ?_; rintro x w2 ⟨rfl, hk2⟩; have hk3 := gro_call hk1 hk2; have hb3 := hk3.below; clear hk1 hb1 hk2 hc1 hf1; obtain ⟨hc1, hf1⟩ := bcell hb3; simp only [World.size_alloc] at hc1 hf1))
        go_ret
        exact ⟨ret_i64 E.out.symm, by (repeat (first | with_reducible rfl | with_reducible exact Below.refl _ _ | with_reducible exact gro_refl _ | with_reducible refine kc_drew ?_ | with_reducible refine kc_drewN _ ?_ | with_reducible refine kf_drew ?_ | with_reducible refine kf_drewN _ ?_ | with_reducible refine kc_below hb3 ?_ | ((with_reducible refine kc_new ?_ ?_); (focus (first | with_reducible rfl | (simp only [sZ]; done))); (focus (first | rfl | (simp; done)))) | ((with_reducible refine kc_set0 ?_ ?_); (focus (first | rfl | (simp; done)))) | with_reducible refine ct_drew ?_ | with_reducible refine ct_drewN _ ?_ | with_reducible refine ct_below hb3 ?_ | ((with_reducible refine ct_new ?_ ?_); (focus (first | with_reducible rfl | (simp only [sZ]; done))); (focus (first | rfl | (simp; done)))) | with_reducible refine ct_set _ _ ?_ | with_reducible refine ct_alloc _ ?_ | ((with_reducible refine kc_set ?_ ?_); (focus (first | (intro hx; injection hx; omega) | (simp; done)))) | with_reducible refine kc_alloc _ ?_ | ((with_reducible refine kf_new ?_ _); (focus (first | with_reducible rfl | (simp only [sZ]; done)))) | with_reducible refine kf_set _ _ ?_ | ((with_reducible refine kf_below hb3 ?_ ?_); (focus (simp only [sZ]; omega))) | ((with_reducible refine kf_alloc _ ?_ ?_); (focus (first | (simp only [sZ]; omega) | (dsimp only; omega)))) | with_reducible refine bl_alloc ?_ _ | with_reducible refine bl_drew ?_ | with_reducible refine bl_drewN ?_ _ | ((with_reducible refine bl_set ?_ ?_ _); (focus (dsimp only; omega))) | with_reducible refine bl_call ?_ hb3 | with_reducible refine gro_alloc ?_ _ | with_reducible refine gro_drew ?_ | with_reducible refine gro_drewN ?_ _ | ((with_reducible refine gro_set ?_ ?_ _); (focus (first | omega | (dsimp only; omega)))) | with_reducible refine gro_call ?_ hk3))⟩
      · have E := Lib.hid (show csF n d a b c e k = 1 by rw [E1.out, hv]; simp; omega)
        have t : decide (n ≤ 0) = true := by simpa using hp
        clear hv h
        go_enter Try.func81, Try.ntmps81
        go_wp2_with (first | (go_at_call 20; refine (hC _).mono ?_; rintro x w1 ⟨rfl, hk1⟩; have hb1 := hk1.below; obtain ⟨hc1, hf1⟩ := bcell hb1; simp only [World.size_alloc] at hc1 hf1) | (go_at_call 73; refine (hV _).mono ?_; rintro x w2 ⟨rfl, hk2⟩; have hk3 := gro_call hk1 hk2; have hb3 := hk3.below; clear hk1 hb1 hk2 hc1 hf1; obtain ⟨hc1, hf1⟩ := bcell hb3; simp only [World.size_alloc] at hc1 hf1))
        go_ret
        exact ⟨ret_i64 E.out.symm, by (repeat (first | with_reducible rfl | with_reducible exact Below.refl _ _ | with_reducible exact gro_refl _ | with_reducible refine kc_drew ?_ | with_reducible refine kc_drewN _ ?_ | with_reducible refine kf_drew ?_ | with_reducible refine kf_drewN _ ?_ | with_reducible refine kc_below hb3 ?_ | ((with_reducible refine kc_new ?_ ?_); (focus (first | with_reducible rfl | (simp only [sZ]; done))); (focus (first | rfl | (simp; done)))) | ((with_reducible refine kc_set0 ?_ ?_); (focus (first | rfl | (simp; done)))) | with_reducible refine ct_drew ?_ | with_reducible refine ct_drewN _ ?_ | with_reducible refine ct_below hb3 ?_ | ((with_reducible refine ct_new ?_ ?_); (focus (first | with_reducible rfl | (simp only [sZ]; done))); (focus (first | rfl | (simp; done)))) | with_reducible refine ct_set _ _ ?_ | with_reducible refine ct_alloc _ ?_ | ((with_reducible refine kc_set ?_ ?_); (focus (first | (intro hx; injection hx; omega) | (simp; done)))) | with_reducible refine kc_alloc _ ?_ | ((with_reducible refine kf_new ?_ _); (focus (first | with_reducible rfl | (simp only [sZ]; done)))) | with_reducible refine kf_set _ _ ?_ | ((with_reducible refine kf_below hb3 ?_ ?_); (focus (simp only [sZ]; omega))) | ((with_reducible refine kf_alloc _ ?_ ?_); (focus (first | (simp only [sZ]; omega) | (dsimp only; omega)))) | with_reducible refine bl_alloc ?_ _ | with_reducible refine bl_drew ?_ | with_reducible refine bl_drewN ?_ _ | ((with_reducible refine bl_set ?_ ?_ _); (focus (dsimp only; omega))) | with_reducible refine bl_call ?_ hb3 | with_reducible refine gro_alloc ?_ _ | with_reducible refine gro_drew ?_ | with_reducible refine gro_drewN ?_ _ | ((with_reducible refine gro_set ?_ ?_ _); (focus (first | omega | (dsimp only; omega)))) | with_reducible refine gro_call ?_ hk3))⟩
  · have E := Lib.hid (show csF n d a b c e k = 2 from if_neg h)
    have hC := fun W => check_any n d W hn hn' hd hd'
    rw [ckF_bad h] at hC
    clear h
    go_enter Try.func81, Try.ntmps81
    go_wp2_with (go_at_call 20; refine (hC _).mono ?_; rintro x w1 ⟨rfl, hk1⟩; have hb1 := hk1.below; obtain ⟨hc1, hf1⟩ := bcell hb1; simp only [World.size_alloc] at hc1 hf1)
    go_ret
    exact ⟨ret_i64 E.out.symm, by (repeat (first | with_reducible rfl | with_reducible exact Below.refl _ _ | with_reducible exact gro_refl _ | with_reducible refine kc_drew ?_ | with_reducible refine kc_drewN _ ?_ | with_reducible refine kf_drew ?_ | with_reducible refine kf_drewN _ ?_ | with_reducible refine kc_below hb1 ?_ | ((with_reducible refine kc_new ?_ ?_); (focus (first | with_reducible rfl | (simp only [sZ]; done))); (focus (first | rfl | (simp; done)))) | ((with_reducible refine kc_set0 ?_ ?_); (focus (first | rfl | (simp; done)))) | with_reducible refine ct_drew ?_ | with_reducible refine ct_drewN _ ?_ | with_reducible refine ct_below hb1 ?_ | ((with_reducible refine ct_new ?_ ?_); (focus (first | with_reducible rfl | (simp only [sZ]; done))); (focus (first | rfl | (simp; done)))) | with_reducible refine ct_set _ _ ?_ | with_reducible refine ct_alloc _ ?_ | ((with_reducible refine kc_set ?_ ?_); (focus (first | (intro hx; injection hx; omega) | (simp; done)))) | with_reducible refine kc_alloc _ ?_ | ((with_reducible refine kf_new ?_ _); (focus (first | with_reducible rfl | (simp only [sZ]; done)))) | with_reducible refine kf_set _ _ ?_ | ((with_reducible refine kf_below hb1 ?_ ?_); (focus (simp only [sZ]; omega))) | ((with_reducible refine kf_alloc _ ?_ ?_); (focus (first | (simp only [sZ]; omega) | (dsimp only; omega)))) | with_reducible refine bl_alloc ?_ _ | with_reducible refine bl_drew ?_ | with_reducible refine bl_drewN ?_ _ | ((with_reducible refine bl_set ?_ ?_ _); (focus (dsimp only; omega))) | with_reducible refine bl_call ?_ hb1 | with_reducible refine gro_alloc ?_ _ | with_reducible refine gro_drew ?_ | with_reducible refine gro_drewN ?_ _ | ((with_reducible refine gro_set ?_ ?_ _); (focus (first | omega | (dsimp only; omega)))) | with_reducible refine gro_call ?_ hk1))⟩
end Go.Proofs.Ytoenimkgagndnaa
namespace Go.Proofs.Ytoenimkgagndnaa
set_option linter.unusedVariables false
set_option linter.unusedSimpArgs false
open Go.RowKit Go.Shelf Go.Lib Go.Sort

theorem keep_rep (d : Array Side) : ∀ i, ∃ j, j ≤ i ∧ keepAt d j = true ∧ d[j]!.p = d[i]!.p
  | 0 => ⟨0, Nat.le_refl _, by simp [keepAt], rfl⟩
  | i + 1 => by
    cases h : keepAt d (i + 1) with
    | true => exact ⟨i + 1, Nat.le_refl _, h, rfl⟩
    | false =>
      obtain ⟨j, h1, h2, h3⟩ := keep_rep d i
      refine ⟨j, by omega, h2, h3.trans ?_⟩
      unfold keepAt at h
      simp at h
      exact h.symm

theorem srt_get {l : List Side} {j : Nat} (hj : j < l.length) : (srt l).toArray[j]! = (srt l)[j]'(by rw [srt_len]; exact hj) := by
  rw [getElem!_pos _ j (by simp [srt_len]; exact hj)]; simp
theorem srt_mono {l : List Side} {i j : Nat} (h : i ≤ j) (hj : j < l.length) : (srt l).toArray[i]!.p ≤ (srt l).toArray[j]!.p := by
  rw [srt_get hj, srt_get (by omega)]
  rcases Nat.lt_or_ge i j with k | k
  · exact List.pairwise_iff_getElem.1 (srt_pair l) i j _ _ k
  · obtain rfl : i = j := by omega
    exact Int.le_refl _
theorem srt_ord (l : List Side) : (srt l).Pairwise fun x y => ltOf cmpS y x = false := by
  have h := List.pairwise_mergeSort (le := fun x y => !(ltOf cmpS) y x) (fun a b c h1 h2 => by
      simp only [Bool.not_eq_true'] at *
      exact swoS.ntrans c b a h2 h1) (fun a b => by
      simp only [Bool.or_eq_true, Bool.not_eq_true']
      cases e : ltOf cmpS b a with
      | false => exact .inl rfl
      | true =>
        refine .inr ?_
        cases e2 : ltOf cmpS a b with
        | false => rfl
        | true => exact absurd (swoS.trans a b a e2 e) (by rw [swoS.irrefl]; simp)) l
  exact h.imp fun {x y} hxy => by simpa using hxy
theorem srt_nlt {l : List Side} {i j : Nat} (h : i ≤ j) (hj : j < l.length) : ltOf cmpS (srt l).toArray[j]! (srt l).toArray[i]! = false := by
  rw [srt_get hj, srt_get (by omega)]
  rcases Nat.lt_or_ge i j with k | k
  · exact List.pairwise_iff_getElem.1 (srt_ord l) i j _ _ k
  · obtain rfl : i = j := by omega
    exact swoS.irrefl _

/-- Of every side there is one of the same product in the search that it is not before. -/
theorem sidesL_rep {low high : Int} {st : Nat} {r : Bool} {s : Side} (h : s ∈ gen low high r st) : ∃ x ∈ sidesL low high st r, x.p = s.p ∧ ltOf cmpS s x = false := by
  obtain ⟨i, hi, rfl⟩ := List.mem_iff_getElem.1 (srt_mem.2 h)
  have hi' : i < (gen low high r st).length := by rwa [srt_len] at hi
  obtain ⟨j, hj, hk, hp⟩ := keep_rep (srt (gen low high r st)).toArray i
  refine ⟨(srt (gen low high r st)).toArray[j]!, ?_, ?_, ?_⟩
  · unfold sidesL cmpL
    exact List.mem_map.2 ⟨j, List.mem_filter.2 ⟨List.mem_range.2 (by omega), hk⟩, rfl⟩
  · rw [hp, srt_get hi']
  · have := srt_nlt hj hi'
    rwa [srt_get hi'] at this

/-- The products of the sides of a search rise. -/
theorem sidesL_strict (low high : Int) (st : Nat) (r : Bool) : (sidesL low high st r).Pairwise fun x y => x.p < y.p := by
  unfold sidesL cmpL
  rw [List.pairwise_map, List.pairwise_filter]
  refine (List.pairwise_lt_range (n := (gen low high r st).length)).imp_of_mem fun {i j} _ hj hij _ hkj => ?_
  have hj' : j < (gen low high r st).length := List.mem_range.1 hj
  have h1 := srt_mono (l := gen low high r st) (show i ≤ j - 1 by omega) (by omega)
  have h2 := srt_mono (l := gen low high r st) (show j - 1 ≤ j by omega) hj'
  unfold keepAt at hkj
  simp at hkj
  have h3 : (srt (gen low high r st)).toArray[j]!.p ≠ (srt (gen low high r st)).toArray[j - 1]!.p := by
    rcases hkj with rfl | h
    · omega
    · simpa using h
  omega
end Go.Proofs.Ytoenimkgagndnaa
namespace Go.Proofs.Ytoenimkgagndnaa
set_option linter.unusedVariables false
set_option linter.unusedSimpArgs false
open Go.RowKit Go.Shelf Go.Lib Go.Sort

theorem bang_get {l : List Side} {i : Nat} (h : i < l.length) : l.toArray[i]! = l[i] := by
  rw [getElem!_pos _ i (by simpa using h)]; simp

theorem countP_le (n i : Nat) (h : i < n) (f : Nat → Bool) (hf : ∀ j, j < n → (f j = true ↔ j ≤ i)) : (List.range n).countP f = i + 1 := by
  have e : (List.range n).countP f = (List.range n).countP fun j => decide (j < i + 1) := by
    refine List.countP_congr fun j hj => ?_
    rw [hf j (List.mem_range.1 hj)]
    simp
    omega
  rw [e]
  clear e hf f
  induction n with
  | zero => omega
  | succ n ih =>
    rw [List.range_succ, List.countP_append]
    rcases Nat.lt_or_ge i n with k | k
    · rw [ih k]
      simp
      omega
    · obtain rfl : i = n := by omega
      have : (List.range i).countP (fun j => decide (j < i + 1)) = (List.range i).length := List.countP_eq_length.2 fun j hj => by
        have := List.mem_range.1 hj
        simp; omega
      rw [this]
      simp

theorem above_exact {ws : List Side} (hs : ws.Pairwise fun x y => x.p < y.p) (x : Side) {tn td : Int} (hd : 1 ≤ td) {i : Nat} (hi : i < ws.length) (he : ws[i].p * td = tn * x.p) : aboveN ws x tn td = i + 1 := by
  unfold aboveN
  refine countP_le _ i hi _ fun j hj => ?_
  unfold aboveB cmpF
  rw [bang_get hj, ← he]
  have h := cmpZ_cases (ws[j].p * td) (ws[i].p * td)
  rcases Nat.lt_trichotomy j i with k | k | k
  · have h1 := List.pairwise_iff_getElem.1 hs j i hj hi k
    have h2 := Int.mul_lt_mul_of_pos_right h1 (show 0 < td by omega)
    simp
    omega
  · subst k
    simp
    omega
  · have h1 := List.pairwise_iff_getElem.1 hs i j hi hj k
    have h2 := Int.mul_lt_mul_of_pos_right h1 (show 0 < td by omega)
    simp
    omega

/-- A train of the exact ratio is given out, if its sides are those of the search. -/
theorem trains_exact {st : Nat} {ws ps : List Side} (hs : ws.Pairwise fun x y => x.p < y.p) {tn td : Int} (hd : 1 ≤ td) {w x : Side} (hw : w ∈ ws) (hx : x ∈ ps) (he : w.p * td = tn * x.p) : (⟨(st : Int), w, x⟩ : Tr) ∈ trainsL st ws ps tn td := by
  obtain ⟨i, hi, rfl⟩ := List.mem_iff_getElem.1 hw
  have ha := above_exact hs x hd hi he
  unfold trainsL
  refine List.mem_flatMap.2 ⟨x, hx, ?_⟩
  unfold win winTo winLo winHi
  rw [ha]
  refine List.mem_map.2 ⟨0, List.mem_range.2 (by omega), ?_⟩
  have := bang_get hi
  simp only [Nat.add_sub_cancel, Nat.add_zero]
  rw [this]

theorem trains_sides {st : Nat} {ws ps : List Side} {tn td : Int} {t : Tr} (h : t ∈ trainsL st ws ps tn td) : t.n = st ∧ t.w ∈ ws ∧ t.p ∈ ps := by
  unfold trainsL at h
  obtain ⟨x, hx, h⟩ := List.mem_flatMap.1 h
  unfold win winTo at h
  obtain ⟨k, hk, rfl⟩ := List.mem_map.1 h
  have hk' := List.mem_range.1 hk
  have hl : winLo ws x tn td + k < ws.length := by unfold winHi at hk'; omega
  refine ⟨rfl, ?_, hx⟩
  show ws.toArray[_]! ∈ ws
  rw [bang_get hl]
  exact List.getElem_mem hl

/-- The train's ratio is the target. -/
def isR (tn td : Int) (t : Tr) : Bool := quoN t.w.p t.p.p == tn && quoD t.w.p t.p.p == td
def stepE (tn td : Int) (b t : Tr) : Tr := if (isR tn td t && (b.n == 0 || betF t b)) = true then t else b
def zeroTr : Tr := ⟨0, ⟨0, 0, 0, 0, 0⟩, ⟨0, 0, 0, 0, 0⟩⟩
def bestE (tn td : Int) (l : List Tr) : Tr := l.foldl (stepE tn td) zeroTr
theorem bestE_snoc (tn td : Int) (l : List Tr) (t : Tr) : bestE tn td (l ++ [t]) = stepE tn td (bestE tn td l) t := by simp [bestE]

/-- The order of trains. -/
def Tr.lt (t u : Tr) : Prop := t.n < u.n ∨ (t.n = u.n ∧ (t.w.s + t.p.s < u.w.s + u.p.s ∨ (t.w.s + t.p.s = u.w.s + u.p.s ∧
  (t.w.a < u.w.a ∨ (t.w.a = u.w.a ∧ (t.w.b < u.w.b ∨ (t.w.b = u.w.b ∧ (t.w.c < u.w.c ∨ (t.w.c = u.w.c ∧
  (t.p.a < u.p.a ∨ (t.p.a = u.p.a ∧ (t.p.b < u.p.b ∨ (t.p.b = u.p.b ∧ t.p.c < u.p.c)))))))))))))
theorem lex3_lt (a b c a' b' c' : Int) : lex3 a b c a' b' c' < 0 ↔ (a < a' ∨ (a = a' ∧ (b < b' ∨ (b = b' ∧ c < c')))) := by
  unfold lex3
  have h1 := cmpZ_cases a a'
  have h2 := cmpZ_cases b b'
  have h3 := cmpZ_cases c c'
  split
  · omega
  · split <;> omega
theorem lex3_ne (a b c a' b' c' : Int) : lex3 a b c a' b' c' ≠ 0 ↔ (a ≠ a' ∨ b ≠ b' ∨ c ≠ c') := by
  unfold lex3
  have h1 := cmpZ_cases a a'
  have h2 := cmpZ_cases b b'
  have h3 := cmpZ_cases c c'
  split
  · omega
  · split <;> omega
theorem betF_iff (t u : Tr) : betF t u = true ↔ t.lt u := by
  unfold betF Tr.lt
  have h1 := lex3_lt t.w.a t.w.b t.w.c u.w.a u.w.b u.w.c
  have h2 := lex3_ne t.w.a t.w.b t.w.c u.w.a u.w.b u.w.c
  have h3 := lex3_lt t.p.a t.p.b t.p.c u.p.a u.p.b u.p.c
  split
  · rw [decide_eq_true_iff]; omega
  · split
    · rw [decide_eq_true_iff]; omega
    · split
      · rename_i h; rw [decide_eq_true_iff, h1]; rw [h2] at h; omega
      · rename_i h; rw [decide_eq_true_iff, h3]; rw [h2] at h; omega

theorem snoc_ind {α : Type} {P : List α → Prop} (h0 : P []) (h1 : ∀ l t, P l → P (l ++ [t])) (l : List α) : P l := by
  have h : ∀ m : List α, P m.reverse := fun m => by
    induction m with
    | nil => exact h0
    | cons a m ih => rw [List.reverse_cons]; exact h1 _ _ ih
  have := h l.reverse
  rwa [List.reverse_reverse] at this

/-- What the search has picked out of a list of trains. -/
def Pick (tn td : Int) (l : List Tr) (b : Tr) : Prop :=
  (b.n = 0 ∧ b = zeroTr ∧ ∀ t ∈ l, isR tn td t = false) ∨ (1 ≤ b.n ∧ b ∈ l ∧ isR tn td b = true ∧ ∀ t ∈ l, isR tn td t = true → betF t b = false)
theorem bestE_spec (tn td : Int) (l : List Tr) (hn : ∀ t ∈ l, 1 ≤ t.n) : Pick tn td l (bestE tn td l) := by
  revert hn
  refine snoc_ind (P := fun l => (∀ t ∈ l, 1 ≤ t.n) → Pick tn td l (bestE tn td l)) ?_ ?_ l
  · exact fun _ => .inl ⟨rfl, rfl, fun t ht => by cases ht⟩
  · intro l t ih hn
    have ih := ih fun t ht => hn t (List.mem_append_left _ ht)
    have h1 := hn t (by simp)
    rw [bestE_snoc]
    unfold stepE
    rcases ih with ⟨i0, iz, i1⟩ | ⟨i0, i1, i2, i3⟩
    · cases hr : isR tn td t
      · simp only [Bool.false_and, Bool.false_eq_true, if_false]
        refine .inl ⟨i0, iz, fun u hu => ?_⟩
        rcases List.mem_append.1 hu with h | h
        · exact i1 u h
        · rw [List.mem_singleton.1 h]; exact hr
      · have hb : ((bestE tn td l).n == 0) = true := by simpa using i0
        simp only [hb, Bool.true_and, Bool.true_or, if_true]
        refine .inr ⟨h1, by simp, hr, fun u hu hur => ?_⟩
        rcases List.mem_append.1 hu with h | h
        · rw [i1 u h] at hur; cases hur
        · rw [List.mem_singleton.1 h]
          cases hbt : betF t t with
          | false => rfl
          | true => rw [betF_iff] at hbt; unfold Tr.lt at hbt; omega
    · have hb : ((bestE tn td l).n == 0) = false := by simp; omega
      simp only [hb, Bool.false_or]
      cases hr : isR tn td t
      · simp only [Bool.false_and, Bool.false_eq_true, if_false]
        refine .inr ⟨i0, List.mem_append_left _ i1, i2, fun u hu hur => ?_⟩
        rcases List.mem_append.1 hu with h | h
        · exact i3 u h hur
        · rw [List.mem_singleton.1 h, hr] at hur; cases hur
      · cases hbt : betF t (bestE tn td l)
        · simp only [Bool.true_and, Bool.false_eq_true, if_false]
          refine .inr ⟨i0, List.mem_append_left _ i1, i2, fun u hu hur => ?_⟩
          rcases List.mem_append.1 hu with h | h
          · exact i3 u h hur
          · rw [List.mem_singleton.1 h]; exact hbt
        · simp only [Bool.true_and, if_true]
          refine .inr ⟨h1, by simp, hr, fun u hu hur => ?_⟩
          rw [betF_iff] at hbt
          cases hut : betF u t with
          | false => rfl
          | true =>
            rw [betF_iff] at hut
            rcases List.mem_append.1 hu with h | h
            · have := i3 u h hur
              have h2 : betF u (bestE tn td l) = true := by rw [betF_iff]; unfold Tr.lt at *; omega
              rw [h2] at this; cases this
            · rw [List.mem_singleton.1 h] at hut; unfold Tr.lt at hut; omega
end Go.Proofs.Ytoenimkgagndnaa
