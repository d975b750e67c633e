/- Texts that gearBest_holds reaches: GFits, Few, Fr, Law, Came, GMakes, GRatios. -/
import Derived.Test.YtoenimkgagndnaaBj
import Derived.Test.YtoenimkgagndnaaBk
import Derived.Test.YtoenimkgagndnaaBl
import Derived.Test.YtoenimkgagndnaaBi
import Derived.Test.YtoenimkgagndnaaRows
import Derived.Test.YtoenimkgagndnaaBa
import Derived.ProofKit
import Derived.OpenShut
import Derived.Carry
import Derived.ChangeSame
import Derived.Lib.SmallJoins
import Derived.Test.YtoenimkgagndnaaBq
import Derived.Test.YtoenimkgagndnaaBs
namespace Go.Proofs.Ytoenimkgagndnaa
set_option linter.unusedVariables false
set_option linter.unusedSimpArgs false
open Go.RowKit Go.Lib

end Go.Proofs.Ytoenimkgagndnaa
namespace Go.Proofs.Ytoenimkgagndnaa
set_option linter.unusedVariables false
set_option linter.unusedSimpArgs false
open Go.RowKit Go.Lib

theorem rd_take {W : World} {a : Option Addr} {n c : Nat} {xs : List Int} (h : Rd W (.slice a n c) xs) (k : Nat) :
    n = xs.length ∧ n ≤ c ∧ (xs.take k = [] ∨ ∃ g o, a = some ⟨g, o, none⟩ ∧ ∀ i, i < (xs.take k).length → W.cell? ⟨g, o + i, none⟩ = some (.int .i64 ((xs.take k).getD i 0))) := by
  obtain ⟨a', cap, he, hc, h⟩ := h
  simp only [Value.slice.injEq] at he
  obtain ⟨rfl, rfl, rfl⟩ := he
  refine ⟨rfl, hc, ?_⟩
  rcases h with rfl | ⟨g, o, rfl, h⟩
  · simp
  · refine .inr ⟨g, o, rfl, fun i hi => ?_⟩
    rw [List.length_take] at hi
    rw [h i (by omega)]
    simp [List.getElem?_take, show i < k by omega]

set_option maxHeartbeats 2000000 in
set_option maxRecDepth 100000 in
theorem few_at (a b : Option Addr) (n c m e p q : Nat) (us vs : List Int) (w : World) (hp : min (n : Int) 8 = (p : Int)) (hq : min (m : Int) 8 = (q : Int))
    (pc : p ≤ c) (qe : q ≤ e) (p8 : p ≤ 8) (q8 : q ≤ 8) (hc : c ≤ 9223372036854775807) (he : e ≤ 9223372036854775807)
    (L1 : Hid (us.length = p)) (L2 : Hid (vs.length = q))
    (A1 : Hid (∀ W, Below w.heap.size w W → us = [] ∨ ∃ g o, a = some ⟨g, o, none⟩ ∧ ∀ i, i < us.length → W.cell? ⟨g, o + i, none⟩ = some (.int .i64 (us.getD i 0))))
    (A2 : Hid (∀ W, Below w.heap.size w W → vs = [] ∨ ∃ g o, b = some ⟨g, o, none⟩ ∧ ∀ i, i < vs.length → W.cell? ⟨g, o + i, none⟩ = some (.int .i64 (vs.getD i 0)))) :
    Calls Try.prog 32 #[.agg #[.slice a n c, .slice b m e]] w fun v w' => ∃ a' c' b' e', v = .returned (.agg #[.slice a' p c', .slice b' q e']) ∧
      Hid (RdF w.heap.size w' (.slice a' p c') us) ∧ Hid (RdF w.heap.size w' (.slice b' q e') vs) ∧ Below w.heap.size w w' := by
  have n0 : (0 : Int) ≤ (n : Int) := by omega
  have m0 : (0 : Int) ≤ (m : Int) := by omega
  have p0 : (0 : Int) ≤ (p : Int) := by omega
  have q0 : (0 : Int) ≤ (q : Int) := by omega
  have pc' : (p : Int) ≤ (c : Int) := by omega
  have qe' : (q : Int) ≤ (e : Int) := by omega
  obtain ⟨i0, hi, hz0, hz1, hz2⟩ := info_parts (show (Try.prog.info? 3).map (fun i => (i.zero, i.size, i.bytes)) = some (some (.int .i64 0), 1, 8) by kernel_rfl)
  go_enter Try.func32, Try.ntmps32
  go_wp2_with fail
  go_region_held3 (fun w' => w'.cell? ⟨w.heap.size, 0, none⟩ = some (.slice a n c) ∧ w'.cell? ⟨w.heap.size, 1, none⟩ = some (.slice b m e))
    (((try dsimp only); (repeat' apply And.intro)) <;> (with_reducible repeat (first | exact r0 | exact r1 | refine kc_drew ?_ | refine kc_drewN _ ?_ | refine kc_below hb1 ?_ | refine kc_below hb2 ?_ | (refine kc_new ?_ ?_; (· first | rfl | simp only [sZ]); (· first | rfl | simp)) | (refine kc_set0 ?_ ?_; (· first | rfl | simp)) | exact ct_of (by assumption) | refine ct_drew ?_ | refine ct_drewN _ ?_ | refine ct_below hb1 ?_ | refine ct_below hb2 ?_ | (refine ct_new ?_ ?_; (· first | rfl | simp only [sZ]); (· first | rfl | simp)) | refine ct_set _ _ ?_ | refine ct_alloc _ ?_ | (refine kc_set ?_ ?_; (focus first | (intro hx; injection hx; omega) | (simp; done))) | refine kc_alloc _ ?_)))
    (first | ((have hgd := HR2; clear hgd); refine step_app0 (by rfl) _ _ (by rfl) _ (by rfl) _ _ _ (by rfl) us L1.out (A1.out _ (by (with_reducible repeat (first | exact hB | exact bR | refine bA ?_ | refine bD ?_ | refine bN ?_ | (refine bS ?_ ?_; (· dsimp only; omega)) | refine bl_call ?_ hb2)))) (by omega) ?_; intro a1 c1 w2 HR1 hb2; have HR0 : Hid (RdF (w.heap.size + 2) w2 (.slice a1 p c1) us) := (HR1.out.mono (by (try simp only [World.size_alloc, World.size_drew, size_drewN]); omega)); clear HR1; have HR1 := HR0; clear HR0; have ⟨r0, r1, r2, r3⟩ : w2.cell? ⟨w.heap.size, 0, none⟩ = some (.slice a n c) ∧ w2.cell? ⟨w.heap.size, 1, none⟩ = some (.slice b m e) ∧ w2.cell? ⟨w.heap.size + 1, 0, none⟩ = some (.slice none 0 0) ∧ w2.cell? ⟨w.heap.size + 1, 1, none⟩ = some (.slice none 0 0) := (by and_intros <;> (with_reducible repeat (first | exact r0 | exact r1 | exact r2 | exact r3 | exact r4 | exact r5 | refine kc_drew ?_ | refine kc_drewN _ ?_ | refine kc_below hb2 ?_ | (refine kc_new ?_ ?_; (· first | rfl | simp only [sZ]); (· first | rfl | simp)) | (refine kc_set0 ?_ ?_; (· first | rfl | simp)) | exact ct_of (by assumption) | refine ct_drew ?_ | refine ct_drewN _ ?_ | refine ct_below hb2 ?_ | (refine ct_new ?_ ?_; (· first | rfl | simp only [sZ]); (· first | rfl | simp)) | refine ct_set _ _ ?_ | refine ct_alloc _ ?_ | (refine kc_set ?_ ?_; (focus first | (intro hx; injection hx; omega) | (simp; done))) | refine kc_alloc _ ?_))); have ⟨r4, r5⟩ : w2.frozen? ⟨w.heap.size + 1, 0, none⟩ = false ∧ w2.frozen? ⟨w.heap.size + 1, 1, none⟩ = false := (by and_intros <;> (with_reducible repeat (first | exact r0 | exact r1 | exact r2 | exact r3 | exact r4 | exact r5 | refine kf_drew ?_ | refine kf_drewN _ ?_ | (refine kf_new ?_ _; (· first | rfl | simp only [sZ])) | refine kf_set _ _ ?_ | (refine kf_below hb2 ?_ ?_; (focus simp only [sZ]; omega)) | (refine kf_alloc _ ?_ ?_; (focus first | (simp only [sZ]; omega) | (dsimp only; omega)))))); have hB : Below w.heap.size w w2 := (by (with_reducible repeat (first | exact hB | exact bR | refine bA ?_ | refine bD ?_ | refine bN ?_ | (refine bS ?_ ?_; (· dsimp only; omega)) | refine bl_call ?_ hb2))); have hz2 := hb2.size; (try simp only [World.size_alloc, World.size_drew, size_drewN] at hz2); have g2 : w.heap.size + 1 < w2.heap.size := (by omega); have HR2' := Lib.hid (HR2.out.below (W1 := w2) (by (with_reducible repeat (first | exact bR | refine bA ?_ | refine bD ?_ | refine bN ?_ | (refine bS ?_ ?_; (· dsimp only; omega)) | refine bl_call ?_ hb2)))); clear HR2; have HR2 := HR2'; clear HR2') | (refine step_app0 (by rfl) _ _ (by rfl) _ (by rfl) _ _ _ (by rfl) us L1.out (A1.out _ (by (with_reducible repeat (first | exact hB | exact bR | refine bA ?_ | refine bD ?_ | refine bN ?_ | (refine bS ?_ ?_; (· dsimp only; omega)) | refine bl_call ?_ hb2)))) (by omega) ?_; intro a1 c1 w2 HR1 hb2; have HR0 : Hid (RdF (w.heap.size + 2) w2 (.slice a1 p c1) us) := (HR1.out.mono (by (try simp only [World.size_alloc, World.size_drew, size_drewN]); omega)); clear HR1; have HR1 := HR0; clear HR0; have ⟨r0, r1, r2, r3⟩ : w2.cell? ⟨w.heap.size, 0, none⟩ = some (.slice a n c) ∧ w2.cell? ⟨w.heap.size, 1, none⟩ = some (.slice b m e) ∧ w2.cell? ⟨w.heap.size + 1, 0, none⟩ = some (.slice none 0 0) ∧ w2.cell? ⟨w.heap.size + 1, 1, none⟩ = some (.slice none 0 0) := (by and_intros <;> (with_reducible repeat (first | exact r0 | exact r1 | exact r2 | exact r3 | exact r4 | exact r5 | refine kc_drew ?_ | refine kc_drewN _ ?_ | refine kc_below hb2 ?_ | (refine kc_new ?_ ?_; (· first | rfl | simp only [sZ]); (· first | rfl | simp)) | (refine kc_set0 ?_ ?_; (· first | rfl | simp)) | exact ct_of (by assumption) | refine ct_drew ?_ | refine ct_drewN _ ?_ | refine ct_below hb2 ?_ | (refine ct_new ?_ ?_; (· first | rfl | simp only [sZ]); (· first | rfl | simp)) | refine ct_set _ _ ?_ | refine ct_alloc _ ?_ | (refine kc_set ?_ ?_; (focus first | (intro hx; injection hx; omega) | (simp; done))) | refine kc_alloc _ ?_))); have ⟨r4, r5⟩ : w2.frozen? ⟨w.heap.size + 1, 0, none⟩ = false ∧ w2.frozen? ⟨w.heap.size + 1, 1, none⟩ = false := (by and_intros <;> (with_reducible repeat (first | exact r0 | exact r1 | exact r2 | exact r3 | exact r4 | exact r5 | refine kf_drew ?_ | refine kf_drewN _ ?_ | (refine kf_new ?_ _; (· first | rfl | simp only [sZ])) | refine kf_set _ _ ?_ | (refine kf_below hb2 ?_ ?_; (focus simp only [sZ]; omega)) | (refine kf_alloc _ ?_ ?_; (focus first | (simp only [sZ]; omega) | (dsimp only; omega)))))); have hB : Below w.heap.size w w2 := (by (with_reducible repeat (first | exact hB | exact bR | refine bA ?_ | refine bD ?_ | refine bN ?_ | (refine bS ?_ ?_; (· dsimp only; omega)) | refine bl_call ?_ hb2))); have hz2 := hb2.size; (try simp only [World.size_alloc, World.size_drew, size_drewN] at hz2); have g2 : w.heap.size + 1 < w2.heap.size := (by omega)) | ((have hgd := HR1; clear hgd); refine step_app0 (by rfl) _ _ (by rfl) _ (by rfl) _ _ _ (by rfl) vs L2.out (A2.out _ (by (with_reducible repeat (first | exact hB | exact bR | refine bA ?_ | refine bD ?_ | refine bN ?_ | (refine bS ?_ ?_; (· dsimp only; omega)) | refine bl_call ?_ hb2)))) (by omega) ?_; intro a2 c2 w2 HR2 hb2; have HR0 : Hid (RdF (w.heap.size + 2) w2 (.slice a2 q c2) vs) := (HR2.out.mono (by (try simp only [World.size_alloc, World.size_drew, size_drewN]); omega)); clear HR2; have HR2 := HR0; clear HR0; have ⟨r0, r1, r2, r3⟩ : w2.cell? ⟨w.heap.size, 0, none⟩ = some (.slice a n c) ∧ w2.cell? ⟨w.heap.size, 1, none⟩ = some (.slice b m e) ∧ w2.cell? ⟨w.heap.size + 1, 0, none⟩ = some (.slice none 0 0) ∧ w2.cell? ⟨w.heap.size + 1, 1, none⟩ = some (.slice none 0 0) := (by and_intros <;> (with_reducible repeat (first | exact r0 | exact r1 | exact r2 | exact r3 | exact r4 | exact r5 | refine kc_drew ?_ | refine kc_drewN _ ?_ | refine kc_below hb2 ?_ | (refine kc_new ?_ ?_; (· first | rfl | simp only [sZ]); (· first | rfl | simp)) | (refine kc_set0 ?_ ?_; (· first | rfl | simp)) | exact ct_of (by assumption) | refine ct_drew ?_ | refine ct_drewN _ ?_ | refine ct_below hb2 ?_ | (refine ct_new ?_ ?_; (· first | rfl | simp only [sZ]); (· first | rfl | simp)) | refine ct_set _ _ ?_ | refine ct_alloc _ ?_ | (refine kc_set ?_ ?_; (focus first | (intro hx; injection hx; omega) | (simp; done))) | refine kc_alloc _ ?_))); have ⟨r4, r5⟩ : w2.frozen? ⟨w.heap.size + 1, 0, none⟩ = false ∧ w2.frozen? ⟨w.heap.size + 1, 1, none⟩ = false := (by and_intros <;> (with_reducible repeat (first | exact r0 | exact r1 | exact r2 | exact r3 | exact r4 | exact r5 | refine kf_drew ?_ | refine kf_drewN _ ?_ | (refine kf_new ?_ _; (· first | rfl | simp only [sZ])) | refine kf_set _ _ ?_ | (refine kf_below hb2 ?_ ?_; (focus simp only [sZ]; omega)) | (refine kf_alloc _ ?_ ?_; (focus first | (simp only [sZ]; omega) | (dsimp only; omega)))))); have hB : Below w.heap.size w w2 := (by (with_reducible repeat (first | exact hB | exact bR | refine bA ?_ | refine bD ?_ | refine bN ?_ | (refine bS ?_ ?_; (· dsimp only; omega)) | refine bl_call ?_ hb2))); have hz2 := hb2.size; (try simp only [World.size_alloc, World.size_drew, size_drewN] at hz2); have g2 : w.heap.size + 1 < w2.heap.size := (by omega); have HR1' := Lib.hid (HR1.out.below (W1 := w2) (by (with_reducible repeat (first | exact bR | refine bA ?_ | refine bD ?_ | refine bN ?_ | (refine bS ?_ ?_; (· dsimp only; omega)) | refine bl_call ?_ hb2)))); clear HR1; have HR1 := HR1'; clear HR1') | (refine step_app0 (by rfl) _ _ (by rfl) _ (by rfl) _ _ _ (by rfl) vs L2.out (A2.out _ (by (with_reducible repeat (first | exact hB | exact bR | refine bA ?_ | refine bD ?_ | refine bN ?_ | (refine bS ?_ ?_; (· dsimp only; omega)) | refine bl_call ?_ hb2)))) (by omega) ?_; intro a2 c2 w2 HR2 hb2; have HR0 : Hid (RdF (w.heap.size + 2) w2 (.slice a2 q c2) vs) := (HR2.out.mono (by (try simp only [World.size_alloc, World.size_drew, size_drewN]); omega)); clear HR2; have HR2 := HR0; clear HR0; have ⟨r0, r1, r2, r3⟩ : w2.cell? ⟨w.heap.size, 0, none⟩ = some (.slice a n c) ∧ w2.cell? ⟨w.heap.size, 1, none⟩ = some (.slice b m e) ∧ w2.cell? ⟨w.heap.size + 1, 0, none⟩ = some (.slice none 0 0) ∧ w2.cell? ⟨w.heap.size + 1, 1, none⟩ = some (.slice none 0 0) := (by and_intros <;> (with_reducible repeat (first | exact r0 | exact r1 | exact r2 | exact r3 | exact r4 | exact r5 | refine kc_drew ?_ | refine kc_drewN _ ?_ | refine kc_below hb2 ?_ | (refine kc_new ?_ ?_; (· first | rfl | simp only [sZ]); (· first | rfl | simp)) | (refine kc_set0 ?_ ?_; (· first | rfl | simp)) | exact ct_of (by assumption) | refine ct_drew ?_ | refine ct_drewN _ ?_ | refine ct_below hb2 ?_ | (refine ct_new ?_ ?_; (· first | rfl | simp only [sZ]); (· first | rfl | simp)) | refine ct_set _ _ ?_ | refine ct_alloc _ ?_ | (refine kc_set ?_ ?_; (focus first | (intro hx; injection hx; omega) | (simp; done))) | refine kc_alloc _ ?_))); have ⟨r4, r5⟩ : w2.frozen? ⟨w.heap.size + 1, 0, none⟩ = false ∧ w2.frozen? ⟨w.heap.size + 1, 1, none⟩ = false := (by and_intros <;> (with_reducible repeat (first | exact r0 | exact r1 | exact r2 | exact r3 | exact r4 | exact r5 | refine kf_drew ?_ | refine kf_drewN _ ?_ | (refine kf_new ?_ _; (· first | rfl | simp only [sZ])) | refine kf_set _ _ ?_ | (refine kf_below hb2 ?_ ?_; (focus simp only [sZ]; omega)) | (refine kf_alloc _ ?_ ?_; (focus first | (simp only [sZ]; omega) | (dsimp only; omega)))))); have hB : Below w.heap.size w w2 := (by (with_reducible repeat (first | exact hB | exact bR | refine bA ?_ | refine bD ?_ | refine bN ?_ | (refine bS ?_ ?_; (· dsimp only; omega)) | refine bl_call ?_ hb2))); have hz2 := hb2.size; (try simp only [World.size_alloc, World.size_drew, size_drewN] at hz2); have g2 : w.heap.size + 1 < w2.heap.size := (by omega)))
  all_goals go_wp2_with fail
  all_goals exact bodyPost_ret (v := .agg #[.slice a1 p c1, .slice a2 q c2]) (by simp [results, Try.results32, go_sem, r2, r3, g2, Nat.ne_of_lt g2]) rfl ⟨_, _, _, _, rfl, ((HR1.out.set (by omega) _).set (by omega) _).mono (by omega), ((HR2.out.set (by omega) _).set (by omega) _).mono (by omega), (hB.setCell (by simp only; omega) _).setCell (by simp only; omega) _⟩

theorem few_any (a b : Option Addr) (n c m e : Nat) (xs ys : List Int) (w : World) (hx : Rd w (.slice a n c) xs) (hy : Rd w (.slice b m e) ys) (hc : c ≤ maxLen) (he : e ≤ maxLen) :
    Calls Try.prog 32 #[.agg #[.slice a n c, .slice b m e]] w fun v w' => ∃ a' c' b' e', v = .returned (.agg #[.slice a' (xs.take 8).length c', .slice b' (ys.take 8).length e']) ∧
      Hid (RdF w.heap.size w' (.slice a' (xs.take 8).length c') (xs.take 8)) ∧ Hid (RdF w.heap.size w' (.slice b' (ys.take 8).length e') (ys.take 8)) ∧ Below w.heap.size w w' := by
  obtain ⟨hxl, hxc, hx8⟩ := rd_take hx 8
  obtain ⟨hyl, hyc, hy8⟩ := rd_take hy 8
  unfold maxLen at hc he
  have lp : (xs.take 8).length = min 8 n := by rw [List.length_take, hxl]
  have lq : (ys.take 8).length = min 8 m := by rw [List.length_take, hyl]
  exact few_at a b n c m e _ _ (xs.take 8) (ys.take 8) w (by omega) (by omega) (by omega) (by omega) (by omega) (by omega) (by omega) (by omega) rfl rfl
    (fun W hb => hx8.imp_right fun ⟨g, o, h, k⟩ => ⟨g, o, h, fun i hi => kc_below hb (k i hi)⟩) (fun W hb => hy8.imp_right fun ⟨g, o, h, k⟩ => ⟨g, o, h, fun i hi => kc_below hb (k i hi)⟩)
end Go.Proofs.Ytoenimkgagndnaa
namespace Go.Proofs.Ytoenimkgagndnaa
set_option linter.unusedVariables false
set_option linter.unusedSimpArgs false
open Go.RowKit Go.Lib

def frN (a b : Nat) : Int := ((a / Nat.gcd a b : Nat) : Int)
def frD (a b : Nat) : Int := ((b / Nat.gcd a b : Nat) : Int)
theorem fr_bd {a b : Nat} (hb : 1 ≤ b) : 0 ≤ frN a b ∧ frN a b ≤ a ∧ 1 ≤ frD a b ∧ frD a b ≤ b := by
  unfold frN frD
  have hg : 0 < Nat.gcd a b := Nat.gcd_pos_of_pos_right a hb
  have h1 := Nat.div_le_self a (Nat.gcd a b)
  have h2 := Nat.div_le_self b (Nat.gcd a b)
  have h3 : 1 ≤ b / Nat.gcd a b := Nat.div_pos (Nat.gcd_le_right a hb) hg
  generalize a / Nat.gcd a b = p at *
  generalize b / Nat.gcd a b = q at *
  omega
theorem fr_ok {a b : Nat} (ha : a ≤ 4611686018427387904) (hb : 1 ≤ b) (hb' : b ≤ 4611686018427387904) : okF (frN a b) (frD a b) := by
  obtain ⟨h1, h2, h3, h4⟩ := fr_bd (a := a) hb
  refine ⟨h3, by omega, by omega, by omega, ?_⟩
  have hg : 0 < Nat.gcd a b := Nat.gcd_pos_of_pos_right a hb
  exact Nat.coprime_div_gcd_div_gcd hg
theorem red_small {a b : Nat} (ha : a ≤ 4611686018427387904) (hb' : b ≤ 4611686018427387904) : redV false a b = .tuple #[.agg #[.int .i64 (frN a b), .int .i64 (frD a b)], .int .i64 0] := by
  unfold redV
  have h1 := Nat.div_le_self a (Nat.gcd a b)
  have h2 := Nat.div_le_self b (Nat.gcd a b)
  rw [if_neg (by omega)]
  rfl
def prodN (xs : List Int) : Nat := (prodL xs).natAbs
theorem prodN_bd {xs : List Int} {k : Nat} (hk : k ≤ 6) (h : k ≤ xs.length) (hi : ∀ i, i < k → inT (xs.getD i 0)) : 1 ≤ prodN (xs.take k) ∧ prodN (xs.take k) ≤ 64000000000000 := by
  unfold prodN
  have h1 := prodL_bd h hi
  have h2 := pow200 k hk
  omega
/-- Ratio of good trains. -/
theorem rat_good {xs ys : List Int} (h : okT 6 xs ys) : ratV xs ys = .tuple #[.agg #[.int .i64 (frN (prodN xs) (prodN ys)), .int .i64 (frD (prodN xs) (prodN ys))], .int .i64 0] := by
  have h' := h
  obtain ⟨⟨h1, h2⟩, h3, h4, h5⟩ := h'
  have b1 := prodN_bd (xs := xs) (k := xs.length) (by omega) (Nat.le_refl _) (all_getD.1 h4)
  have b2 := prodN_bd (xs := ys) (k := ys.length) (by omega) (Nat.le_refl _) (all_getD.1 h5)
  rw [List.take_length] at b1 b2
  unfold ratV
  rw [if_pos h]
  exact red_small (by unfold prodN at b1; omega) (by unfold prodN at b2; omega)
end Go.Proofs.Ytoenimkgagndnaa
namespace Go.Proofs.Ytoenimkgagndnaa
set_option linter.unusedVariables false
set_option linter.unusedSimpArgs false
open Go.ChangeShapes Go.WideShapes Go.ChangeAt Go.RowKit

theorem law_own : ownKnob Try.prog.godebug = none := by kernel_rfl
theorem law_laid : laidOutB Try.prog = true := by kernel_rfl

/-- Arguments read as they read, if nothing that was there has turned. -/
theorem args_stay {H : Type} {P : Program} (hl : laidOutB P = true) {enc : TypeId × Value → H} {W W' : World} (hb : Below W.heap.size W W') : ∀ {ts : List TypeId} {vs : List Value} {ds : List (DataW H)} {ps : List MemPlace},
    (ts.all fun t => P.readableRec t && decide (t < P.types.size)) = true → (∀ x ∈ ps, x.block < W.heap.size) →
    DataW.TrodAll enc P W 0 (fun _ => true) true ts vs ds ps → DataW.TrodAll enc P W' 0 (fun b => decide (b < W.heap.size)) true ts vs ds ps
  | [], [], [], _, _, _, h => h
  | [], [], _ :: _, _, _, _, h => h.elim
  | [], _ :: _, _, _, _, _, h => h.elim
  | _ :: _, [], _, _, _, _, h => h.elim
  | _ :: _, _ :: _, [], _, _, _, h => h.elim
  | t :: ts, v :: vs, d :: ds, ps, hr, hlt, h => by
    obtain ⟨p, q, h1, h2, rfl⟩ := h
    simp only [List.all_cons, Bool.and_eq_true, decide_eq_true_eq] at hr
    exact ⟨p, q, Below.trod hl hr.1.1 hr.1.2 h1 hb (fun x hx => hlt x (by simp [hx])), args_stay hl hb hr.2 (fun x hx => hlt x (by simp [hx])) h2, rfl⟩

theorem law_post {H : Type} {enc : TypeId × Value → H} {f : Func} {s : ChangeSpec} {W W' : World} {args : Array Value} {ds : List (DataW H)} {before : List MemPlace} (hW : DataW.Whole enc Try.prog f.params.toList s.vars false W args.toList ds [] before)
    (hA : DataW.TrodAll enc Try.prog W 0 (fun _ => true) true f.params.toList args.toList ds before) (hb : Below W.heap.size W W') (hv : s.vars = [])
    (hp : (f.params.toList.all fun t => Try.prog.readableRec t && decide (t < Try.prog.types.size)) = true) (hr : f.resultTypes = #[4]) (hs : s.fn H (ds ++ []) = { results := [.lit (.bool true)], args := ds }) :
    s.post enc Try.prog f false true false false W args (.bool true) W' := by
  have hlt : ∀ p ∈ before, p.block < W.heap.size := fun p hp => hW.lt p hp
  refine ⟨ds, [], before, [], before, [], hW, ?_, ?_, ?_, hb.frame _, fun h => by cases h⟩
  · rw [hs, hr]
    exact trodAll_cons_mk (shut_bool Try.underlying4 _) trodAll_mk0
  · rw [hs]
    exact args_stay law_laid hb hp hlt hA
  · rw [hs, hv]
    exact rfl
end Go.Proofs.Ytoenimkgagndnaa
namespace Go.Proofs.Ytoenimkgagndnaa
set_option linter.unusedVariables false
set_option linter.unusedSimpArgs false
open Go.ChangeShapes Go.WideShapes Go.ChangeAt Go.RowKit

theorem int_came {H : Type} {enc : TypeId × Value → H} {W : World} {n : Nat} {v : Value} {y : DataW H × List MemPlace} (h : DataW.trod enc Try.prog W 0 (fun _ => true) true n 3 [v] = some y) : ∃ a, v = .int .i64 a ∧ (Lit.int IntKind.i64 a).wf = true := by
  obtain ⟨a, h1, _, h3⟩ := DataW.trod_int Try.underlying3 h
  simp only [List.cons.injEq, and_true] at h1
  exact ⟨a, h1, h3⟩
theorem wf_bd {a : Int} (h : (Lit.int IntKind.i64 a).wf = true) : -9223372036854775808 ≤ a ∧ a ≤ 9223372036854775807 := by
  simp only [Lit.wf, Bool.and_eq_true, decide_eq_true_eq] at h
  exact h
end Go.Proofs.Ytoenimkgagndnaa
namespace Go.Proofs.Ytoenimkgagndnaa
set_option linter.unusedVariables false
set_option linter.unusedSimpArgs false
open Go.ChangeShapes Go.WideShapes Go.ChangeAt Go.RowKit

end Go.Proofs.Ytoenimkgagndnaa
namespace Go.Proofs.Ytoenimkgagndnaa
set_option linter.unusedVariables false
set_option linter.unusedSimpArgs false
open Go.RowKit Go.Lib

end Go.Proofs.Ytoenimkgagndnaa
