/- Texts that gearBest_holds reaches: GBest. -/
import Derived.Test.YtoenimkgagndnaaBa
import Derived.Test.YtoenimkgagndnaaBk
import Derived.Test.YtoenimkgagndnaaBt
import Derived.Test.YtoenimkgagndnaaBu
namespace Go.Proofs.Ytoenimkgagndnaa
set_option linter.unusedVariables false
set_option linter.unusedSimpArgs false
open Go.RowKit Go.Lib

theorem rdF_lt {base : Nat} {W : World} {a : Option Addr} {n c : Nat} {xs : List Int} (h : RdF base W (.slice a n c) xs) {g o : Nat} (hg : a = some ⟨g, o, none⟩) (hn : 1 ≤ n) : g < W.heap.size := by
  obtain ⟨a', c', he, hc, h⟩ := h
  simp only [Value.slice.injEq] at he
  obtain ⟨rfl, rfl, rfl⟩ := he
  rcases h with rfl | ⟨g', o', h0, h1, h2⟩
  · simp at hn
  · rw [hg] at h1
    simp only [Option.some.injEq, Addr.mk.injEq, and_true] at h1
    rw [h1.1]
    exact World.block_lt_of_cell? _ _ (h2 0 (by omega))
theorem rdF_le {base : Nat} {W : World} {a : Option Addr} {n c : Nat} {xs : List Int} (h : RdF base W (.slice a n c) xs) {g o : Nat} (hg : a = some ⟨g, o, none⟩) (hn : 1 ≤ n) : base ≤ g := by
  obtain ⟨a', c', he, hc, h⟩ := h
  simp only [Value.slice.injEq] at he
  obtain ⟨rfl, rfl, rfl⟩ := he
  rcases h with rfl | ⟨g', o', h0, h1, h2⟩
  · simp at hn
  · rw [hg] at h1
    simp only [Option.some.injEq, Addr.mk.injEq, and_true] at h1
    omega
theorem rd_set {W : World} {a : Option Addr} {n c b k : Nat} {xs : List Int} {u : Value} (hx : ∀ g o, a = some ⟨g, o, none⟩ → 1 ≤ n → g ≠ b) (h : Rd W (.slice a n c) xs) : Rd (W.setCell ⟨b, k, none⟩ u) (.slice a n c) xs := by
  obtain ⟨a', c', he, hc, h⟩ := h
  simp only [Value.slice.injEq] at he
  obtain ⟨rfl, rfl, rfl⟩ := he
  refine ⟨_, _, rfl, hc, ?_⟩
  rcases h with h | ⟨g, o, hg, h⟩
  · exact .inl h
  · exact .inr ⟨g, o, hg, fun i hi => kc_set (fun he => hx g o hg (by omega) (by injection he with h1; exact h1.symm)) (h i hi)⟩
/-- What the operations of the first statement yield. -/
def RBest (base : Nat) (a b : Option Addr) (n c' m e' N M : Nat) (us vs : List Int) (l0 l1 l2 l3 l4 m0 m1 m2 m3 m4 : Int) : Nat → Value → Nat → Nat → World → Prop
  | 0, v, _, _, _ => v = .agg #[.int .i64 l0, .int .i64 l1, .int .i64 l2, .int .i64 l3, .int .i64 l4]
  | 1, v, _, _, _ => v = .agg #[.int .i64 m0, .int .i64 m1, .int .i64 m2, .int .i64 m3, .int .i64 m4]
  | 2, v, _, _, _ => v = .agg #[.slice a n c', .slice b m e']
  | 3, v, lo, hi, w => ∃ a1 c b1 e, v = .agg #[.slice a1 N c, .slice b1 M e] ∧ Hid (RdF lo w (.slice a1 N c) us) ∧ Hid (RdF lo w (.slice b1 M e) vs) ∧ Hid ((∀ g o, a1 = some ⟨g, o, none⟩ → 1 ≤ N → g < hi) ∧ ∀ g o, b1 = some ⟨g, o, none⟩ → 1 ≤ M → g < hi)
  | 4, v, lo, hi, w => ∃ g, v = .pointer (some ⟨g, 0, none⟩) ∧ (base ≤ g ∧ lo ≤ g) ∧ g < hi ∧ Hid ((∀ i, i < 5 → w.cell? ⟨g, i, none⟩ = some (.int .i64 0)) ∧ ∀ i, i < 5 → w.frozen? ⟨g, i, none⟩ = false)
  | 5, v, lo, hi, w => ∃ g, v = .pointer (some ⟨g, 0, none⟩) ∧ (base ≤ g ∧ lo ≤ g) ∧ g < hi ∧ Hid ((∀ i, i < 2 → w.cell? ⟨g, i, none⟩ = some (.slice none 0 0)) ∧ ∀ i, i < 2 → w.frozen? ⟨g, i, none⟩ = false)
  | _, _, _, _, _ => True

/-- What the memory holds behind the first statement. -/
structure BBest (w : World) (g7 g8 : Nat) (a1 b1 : Option Addr) (N c M e : Nat) (m0 m1 m2 m3 m4 zn zd : Int) (W : World) : Prop where
  l0 : W.cell? ⟨g7, 0, none⟩ = some (.int .i64 m0)
  l1 : W.cell? ⟨g7, 1, none⟩ = some (.int .i64 m1)
  l2 : W.cell? ⟨g7, 2, none⟩ = some (.int .i64 m2)
  l3 : W.cell? ⟨g7, 3, none⟩ = some (.int .i64 m3)
  l4 : W.cell? ⟨g7, 4, none⟩ = some (.int .i64 m4)
  t0 : W.cell? ⟨g8, 0, none⟩ = some (.slice a1 N c)
  t1 : W.cell? ⟨g8, 1, none⟩ = some (.slice b1 M e)
  z0 : W.cell? ⟨w.heap.size + 1 + 1, 0, none⟩ = some (.int .i64 zn)
  z1 : W.cell? ⟨w.heap.size + 1 + 1, 1, none⟩ = some (.int .i64 zd)
  below : Below w.heap.size w W
def CutBest (w : World) (N M : Nat) (us vs : List Int) (m0 m1 m2 m3 m4 zn zd : Int) (s t : Value) (W : World) : Prop :=
  ∃ g7 g8 a1 c b1 e, s = .pointer (some ⟨g7, 0, none⟩) ∧ t = .pointer (some ⟨g8, 0, none⟩) ∧ Hid (BBest w g7 g8 a1 b1 N c M e m0 m1 m2 m3 m4 zn zd W) ∧ Hid (Rd W (.slice a1 N c) us) ∧ Hid (Rd W (.slice b1 M e) vs)
theorem exact_none {n d a b c e k : Int} (hc : csF n d a b c e k = 0) (h : (exS n d a b c e k.toNat 1).n < 1) (w : World) :
    Calls Try.prog 49 #[.agg #[.int .i64 n, .int .i64 d], .agg #[.int .i64 a, .int .i64 b, .int .i64 c, .int .i64 e, .int .i64 k]] w fun v w' => v = .returned (.tuple #[.agg #[.slice none 0 0, .slice none 0 0], .int .i64 6]) ∧ Below w.heap.size w w' := by
  refine (exact_fine n d a b c e k w hc).mono ?_
  rintro v w' ⟨hb, ⟨_, he⟩ | ⟨st, a', m, b', k', hn, h1, _⟩⟩
  · exact ⟨he, hb⟩
  · omega
theorem exact_found {n d a b c e k : Int} (hc : csF n d a b c e k = 0) {T : Tr} (hT : exS n d a b c e k.toNat 1 = T) {st : Nat} (hn : T.n = st) (h1 : 1 ≤ st) (l1 : (T.w.teeth st).length = st) (l2 : (T.p.teeth st).length = st) (w : World) :
    Calls Try.prog 49 #[.agg #[.int .i64 n, .int .i64 d], .agg #[.int .i64 a, .int .i64 b, .int .i64 c, .int .i64 e, .int .i64 k]] w fun v w' => ∃ a' m b' k', v = .returned (.tuple #[.agg #[.slice a' st m, .slice b' st k'], .int .i64 0]) ∧ Hid (Rd w' (.slice a' st m) (T.w.teeth st)) ∧ Hid (Rd w' (.slice b' st k') (T.p.teeth st)) ∧ Below w.heap.size w w' := by
  refine (exact_fine n d a b c e k w hc).mono ?_
  rw [hT]
  rintro v w' ⟨hb, ⟨h0, _⟩ | ⟨st', a', m, b', k', hn', _, he, o1, o2⟩⟩
  · omega
  · obtain rfl : st' = st := by omega
    exact ⟨a', m, b', k', he, rd_own l1 o1, rd_own l2 o2, hb⟩
theorem none_any (w : World) : Calls Try.prog 50 #[.agg #[.slice none 0 0, .slice none 0 0]] w fun v w' => v = .returned (.bool true) ∧ Below w.heap.size w w' := by
  go_enter Try.func50, Try.ntmps50
  go_wp2_with fail
  go_ret
  exact ⟨rfl, by (with_reducible repeat (first | exact bR | refine bA ?_ | refine bD ?_ | refine bN ?_ | (refine bS ?_ ?_; (· dsimp only; omega))))⟩
theorem cs_zero {n d a b c e k : Int} (ho : okF n d) (hl : vlF a b c e k = true) (hn : 0 < n) : csF n d a b c e k = 0 := by
  unfold csF
  rw [if_pos ho, if_pos ⟨hl, hn⟩]

/-- The reference's ratio of a train: in lowest terms, and the ratio of the products. -/
theorem ref_ratio_full {us vs : List Int} {N M : Nat} (hok : okT 6 us vs) (hN : us.length = N) (hM : vs.length = M) :
    ∃ X Y : Int, Hid (1 ≤ Y) ∧ Hid (X.natAbs < 10000 ^ 4) ∧ Hid (Y.natAbs < 10000 ^ 4) ∧ X * prodL vs = prodL us * Y ∧ redV (decide (X < 0)) X.natAbs Y.natAbs = ratV us vs ∧
      ∀ (a : Option Addr) (c : Nat) (b : Option Addr) (e : Nat) (W : World), Rd W (.slice a N c) us → Rd W (.slice b M e) vs → Hid (Calls Try.prog 37 #[.agg #[.slice a N c, .slice b M e]] W (QP (W.heap.size + 2) W X Y)) := by
  have hok' := hok
  obtain ⟨⟨k1, k2⟩, k3, k4, k5⟩ := hok'
  have b1 := prodL_bd (xs := us) (k := us.length) (Nat.le_refl _) (all_getD.1 k4)
  have b2 := prodL_bd (xs := vs) (k := vs.length) (Nat.le_refl _) (all_getD.1 k5)
  have b3 := pow200 us.length (by omega)
  have b4 := pow200 vs.length (by omega)
  rw [List.take_length] at b1 b2
  have g0 : 0 < Nat.gcd (prodL us).natAbs (prodL vs).natAbs := Nat.gcd_pos_of_pos_left _ (by omega)
  have d1 := exact_div (X := prodL us) (Nat.gcd_dvd_left _ _) g0
  have d2 := exact_div (X := prodL vs) (Nat.gcd_dvd_right _ _) g0
  rw [if_neg (by omega)] at d1 d2
  have l1 := Nat.div_le_self (prodL us).natAbs (Nat.gcd (prodL us).natAbs (prodL vs).natAbs)
  have l2 := Nat.div_le_self (prodL vs).natAbs (Nat.gcd (prodL us).natAbs (prodL vs).natAbs)
  have p1 : 0 < (prodL vs).natAbs / Nat.gcd (prodL us).natAbs (prodL vs).natAbs := Nat.div_pos (Nat.le_of_dvd (by omega) (Nat.gcd_dvd_right _ _)) g0
  have q1 : ((Nat.gcd (prodL us).natAbs (prodL vs).natAbs : Nat) : Int) ∣ prodL us := Int.natAbs_dvd_natAbs.1 (by rw [Int.natAbs_natCast]; exact Nat.gcd_dvd_left _ _)
  have q2 : ((Nat.gcd (prodL us).natAbs (prodL vs).natAbs : Nat) : Int) ∣ prodL vs := Int.natAbs_dvd_natAbs.1 (by rw [Int.natAbs_natCast]; exact Nat.gcd_dvd_right _ _)
  have e1 := Int.ediv_mul_cancel q1
  have e2 := Int.ediv_mul_cancel q2
  subst hN
  obtain rfl : us.length = M := by rw [← k3]; exact hM
  refine ⟨prodL us / (Nat.gcd (prodL us).natAbs (prodL vs).natAbs : Nat), prodL vs / (Nat.gcd (prodL us).natAbs (prodL vs).natAbs : Nat), ?_, ?_, ?_, ?_, ?_, fun a c b e W h1 h2 => Lib.hid (refRatio_at a b us.length c e us vs W h1 h2 (by omega) k4 k5)⟩
  · show _ ≤ _
    rw [d2.1]
    omega
  · show _ < 10000000000000000
    rw [d1.2]
    omega
  · show _ < 10000000000000000
    rw [d2.2]
    omega
  · generalize prodL us / ((Nat.gcd (prodL us).natAbs (prodL vs).natAbs : Nat) : Int) = X at *
    generalize prodL vs / ((Nat.gcd (prodL us).natAbs (prodL vs).natAbs : Nat) : Int) = Y at *
    generalize ((Nat.gcd (prodL us).natAbs (prodL vs).natAbs : Nat) : Int) = g at *
    rw [← e1, ← e2, Int.mul_assoc, Int.mul_comm g Y]
  · rw [d1.2, d2.2, d1.1, decide_eq_false (by omega)]
    unfold ratV
    rw [if_pos hok]
    have hs := red_scale false (a := (prodL us).natAbs / Nat.gcd (prodL us).natAbs (prodL vs).natAbs) (b := (prodL vs).natAbs / Nat.gcd (prodL us).natAbs (prodL vs).natAbs) g0
    rw [Nat.mul_div_cancel' (Nat.gcd_dvd_left _ _), Nat.mul_div_cancel' (Nat.gcd_dvd_right _ _)] at hs
    exact hs.symm
theorem same_ratio {X Y P Q tn td : Int} (h1 : X * Q = P * Y) (h2 : P * td = tn * Q) (hQ : 1 ≤ Q) : cmpZ (X * td) (tn * Y) = 0 := by
  refine cmpZ_eq (Int.eq_of_mul_eq_mul_right (show Q ≠ 0 by omega) ?_)
  rw [Int.mul_right_comm, h1, Int.mul_right_comm, h2, Int.mul_right_comm]
theorem fit_six {xs ys : List Int} {a b c d k : Int} (h : FitP xs ys a b c d k) (hk : k ≤ 3) : okT 6 xs ys := ⟨⟨h.1.1.1, by have := h.1.1.2; omega⟩, h.1.2⟩

set_option maxHeartbeats 4000000 in
set_option maxRecDepth 100000 in
theorem gearBest_bad (a b : Option Addr) (n c' m e' N M : Nat) (us vs xs ys : List Int) (l0 l1 l2 l3 l4 m0 m1 m2 m3 m4 zn zd : Int) (w : World)
    (HX : Hid (Rd w (.slice a n c') xs)) (HY : Hid (Rd w (.slice b m e') ys))
    (HNar : ∀ W, Hid (Calls Try.prog 48 #[.agg #[.int .i64 l0, .int .i64 l1, .int .i64 l2, .int .i64 l3, .int .i64 l4], .int .i64 11] W fun v w' => v = .returned (.agg #[.int .i64 m0, .int .i64 m1, .int .i64 m2, .int .i64 m3, .int .i64 m4]) ∧ Below W.heap.size W w'))
    (HF2 : ∀ W, Rd W (.slice a n c') xs → Rd W (.slice b m e') ys → Hid (Calls Try.prog 32 #[.agg #[.slice a n c', .slice b m e']] W fun v w' => ∃ a' c'' b' e'', v = .returned (.agg #[.slice a' N c'', .slice b' M e'']) ∧ Hid (RdF W.heap.size w' (.slice a' N c'') us) ∧ Hid (RdF W.heap.size w' (.slice b' M e'') vs) ∧ Below W.heap.size W w'))
    (hl : vlF m0 m1 m2 m3 m4 = false) : Calls Try.prog 14 #[.agg #[.slice a n c', .slice b m e'], .agg #[.int .i64 l0, .int .i64 l1, .int .i64 l2, .int .i64 l3, .int .i64 l4], .agg #[.int .i64 zn, .int .i64 zd]] w fun e w' => e = .returned (.bool true) ∧ Below w.heap.size w w' := by
  have HLim := fun W => Lib.hid (refLimits_any m0 m1 m2 m3 m4 W)
  simp only [hl] at HLim
  clear hl
  go_enter Try.func14, Try.ntmps14
  go_upto_region 1 with fail
  go_cut [7, 8] (fun s t wx => CutBest w N M us vs m0 m1 m2 m3 m4 zn zd s t wx)
  case first =>
    refine wp_region_told [0, 1, 2, 3, 4, 5] [[], [0], [], [1, 2], [], []] (RBest (w.heap.size + 1 + 1 + 1) a b n c' m e' N M us vs l0 l1 l2 l3 l4 m0 m1 m2 m3 m4) (by kernel_rfl) (by kernel_rfl) (by kernel_rfl) (by decide) (by decide) (by kernel_rfl) ?_ ?_ ?_
    · intro i hi v lo hi' W W' h hb
      simp only [List.mem_cons, List.not_mem_nil, or_false] at hi
      rcases hi with rfl | rfl | rfl | rfl | rfl | rfl
      · exact h
      · exact h
      · exact h
      · (obtain ⟨a1, c, b1, e, h1, h2, h3, h4⟩ := h; exact ⟨a1, c, b1, e, h1, h2.out.below hb, h3.out.below hb, h4⟩)
      · (obtain ⟨g, h1, h2, h3, h4⟩ := h; exact ⟨g, h1, h2, h3, fun i hi => kc_below hb (h4.out.1 i hi), fun i hi => kf_below hb (World.block_lt_of_cell? _ _ (h4.out.1 i hi)) (h4.out.2 i hi)⟩)
      · (obtain ⟨g, h1, h2, h3, h4⟩ := h; exact ⟨g, h1, h2, h3, fun i hi => kc_below hb (h4.out.1 i hi), fun i hi => kf_below hb (World.block_lt_of_cell? _ _ (h4.out.1 i hi)) (h4.out.2 i hi)⟩)
    · intro j hj o tl ho W val lo hi hb hv
      simp only [List.mem_cons, List.not_mem_nil, or_false] at hj
      rcases hj with rfl | rfl | rfl | rfl | rfl | rfl
      · injection ho with h1 h2
        subst h1
        clear h2
        refine givesR_of (by rfl) (fun K hK => ?_) (by simp)
        simp only [putAll, dstOf, List.getD_cons_zero, List.getD_cons_succ, List.getElem?_toArray, List.getElem?_cons_zero, List.getElem?_cons_succ, Option.bind_some, Act.put, List.setIfInBounds_toArray, List.set_cons_zero, List.set_cons_succ] at hK ⊢
        (have ⟨x0, x1, x2, x3, x4⟩ : W.cell? ⟨w.heap.size + 1, 0, none⟩ = some (.int .i64 l0) ∧ W.cell? ⟨w.heap.size + 1, 1, none⟩ = some (.int .i64 l1) ∧ W.cell? ⟨w.heap.size + 1, 2, none⟩ = some (.int .i64 l2) ∧ W.cell? ⟨w.heap.size + 1, 3, none⟩ = some (.int .i64 l3) ∧ W.cell? ⟨w.heap.size + 1, 4, none⟩ = some (.int .i64 l4) := (by and_intros <;> (with_reducible repeat (first | refine kc_drew ?_ | refine kc_drewN _ ?_ | refine kc_below hb ?_ | (refine kc_new ?_ ?_; (· first | rfl | simp only [sZ]); (· first | rfl | simp)) | (refine kc_set0 ?_ ?_; (· first | rfl | simp)) | exact ct_of (by assumption) | refine ct_drew ?_ | refine ct_drewN _ ?_ | refine ct_below hb ?_ | (refine ct_new ?_ ?_; (· first | rfl | simp only [sZ]); (· first | rfl | simp)) | refine ct_set _ _ ?_ | refine ct_alloc _ ?_ | (refine kc_set ?_ ?_; (focus first | (intro hx; injection hx; omega) | (simp; done))) | refine kc_alloc _ ?_))); go_simp; refine hK.out _ _ (Below.refl _ _) ?_; exact rfl)
      · injection ho with h1 h2
        subst h1
        clear h2
        have e0 : val 0 = .agg #[.int .i64 l0, .int .i64 l1, .int .i64 l2, .int .i64 l3, .int .i64 l4] := hv 0 (by simp)
        refine givesR_of (by rfl) (fun K hK => ?_) (by simp)
        simp only [putAll, dstOf, List.getD_cons_zero, List.getD_cons_succ, List.getElem?_toArray, List.getElem?_cons_zero, List.getElem?_cons_succ, Option.bind_some, Act.put, List.setIfInBounds_toArray, List.set_cons_zero, List.set_cons_succ, e0] at hK ⊢
        (go_simp; go_at_call 48; ((with_reducible refine (HNar _).out.mono ?_); rintro v w2 ⟨rfl, hb2⟩; dsimp only; refine hK.out _ _ hb2 ?_; exact rfl))
      · injection ho with h1 h2
        subst h1
        clear h2
        refine givesR_of (by rfl) (fun K hK => ?_) (by simp)
        simp only [putAll, dstOf, List.getD_cons_zero, List.getD_cons_succ, List.getElem?_toArray, List.getElem?_cons_zero, List.getElem?_cons_succ, Option.bind_some, Act.put, List.setIfInBounds_toArray, List.set_cons_zero, List.set_cons_succ] at hK ⊢
        (have ⟨x0, x1⟩ : W.cell? ⟨w.heap.size, 0, none⟩ = some (.slice a n c') ∧ W.cell? ⟨w.heap.size, 1, none⟩ = some (.slice b m e') := (by and_intros <;> (with_reducible repeat (first | refine kc_drew ?_ | refine kc_drewN _ ?_ | refine kc_below hb ?_ | (refine kc_new ?_ ?_; (· first | rfl | simp only [sZ]); (· first | rfl | simp)) | (refine kc_set0 ?_ ?_; (· first | rfl | simp)) | exact ct_of (by assumption) | refine ct_drew ?_ | refine ct_drewN _ ?_ | refine ct_below hb ?_ | (refine ct_new ?_ ?_; (· first | rfl | simp only [sZ]); (· first | rfl | simp)) | refine ct_set _ _ ?_ | refine ct_alloc _ ?_ | (refine kc_set ?_ ?_; (focus first | (intro hx; injection hx; omega) | (simp; done))) | refine kc_alloc _ ?_))); go_simp; refine hK.out _ _ (Below.refl _ _) ?_; exact rfl)
      · injection ho with h1 h2
        subst h1
        clear h2
        have e1 : val 1 = .agg #[.int .i64 m0, .int .i64 m1, .int .i64 m2, .int .i64 m3, .int .i64 m4] := hv 1 (by simp)
        have e2 : val 2 = .agg #[.slice a n c', .slice b m e'] := hv 2 (by simp)
        refine givesR_of (by rfl) (fun K hK => ?_) (by simp)
        simp only [putAll, dstOf, List.getD_cons_zero, List.getD_cons_succ, List.getElem?_toArray, List.getElem?_cons_zero, List.getElem?_cons_succ, Option.bind_some, Act.put, List.setIfInBounds_toArray, List.set_cons_zero, List.set_cons_succ, e1, e2] at hK ⊢
        (go_simp; go_at_call 32; ((with_reducible refine (HF2 _ (HX.out.below (by (with_reducible repeat (first | exact bR | refine bA ?_ | refine bD ?_ | refine bN ?_ | (refine bS ?_ ?_; (· dsimp only; omega)) | refine bl_call ?_ hb)))) (HY.out.below (by (with_reducible repeat (first | exact bR | refine bA ?_ | refine bD ?_ | refine bN ?_ | (refine bS ?_ ?_; (· dsimp only; omega)) | refine bl_call ?_ hb))))).out.mono ?_); rintro v w2 ⟨a1, c, b1, e, rfl, hu1, hv1, hb2⟩; dsimp only; refine hK.out _ _ hb2 ?_; exact ⟨a1, c, b1, e, rfl, hu1, hv1, ⟨fun g o hg hN => rdF_lt hu1.out hg hN, fun g o hg hN => rdF_lt hv1.out hg hN⟩⟩))
      · injection ho with h1 h2
        subst h1
        clear h2
        refine givesR_of (by rfl) (fun K hK => ?_) (by simp)
        simp only [putAll, dstOf, List.getD_cons_zero, List.getD_cons_succ, List.getElem?_toArray, List.getElem?_cons_zero, List.getElem?_cons_succ, Option.bind_some, Act.put, List.setIfInBounds_toArray, List.set_cons_zero, List.set_cons_succ] at hK ⊢
        (go_simp; refine hK.out _ _ (by (with_reducible repeat (first | exact bR | refine bA ?_ | refine bD ?_ | refine bN ?_ | (refine bS ?_ ?_; (· dsimp only; omega))))) ?_; exact ⟨_, rfl, ⟨by have := hb.size; (simp only [World.size_alloc] at this); omega, Nat.le_refl _⟩, by simp, fun i hi => (by rcases (show i = 0 ∨ i = 1 ∨ i = 2 ∨ i = 3 ∨ i = 4 by omega) with rfl | rfl | rfl | rfl | rfl <;> exact kc_new rfl rfl), fun i hi => kf_new rfl _⟩)
      · injection ho with h1 h2
        subst h1
        clear h2
        refine givesR_of (by rfl) (fun K hK => ?_) (by simp)
        simp only [putAll, dstOf, List.getD_cons_zero, List.getD_cons_succ, List.getElem?_toArray, List.getElem?_cons_zero, List.getElem?_cons_succ, Option.bind_some, Act.put, List.setIfInBounds_toArray, List.set_cons_zero, List.set_cons_succ] at hK ⊢
        (go_simp; refine hK.out _ _ (by (with_reducible repeat (first | exact bR | refine bA ?_ | refine bD ?_ | refine bN ?_ | (refine bS ?_ ?_; (· dsimp only; omega))))) ?_; exact ⟨_, rfl, ⟨by have := hb.size; (simp only [World.size_alloc] at this); omega, Nat.le_refl _⟩, by simp, fun i hi => (by rcases (show i = 0 ∨ i = 1 by omega) with rfl | rfl <;> exact kc_new rfl rfl), fun i hi => kf_new rfl _⟩)
    · intro W val lo hi hb hv hd
      have e0 : val 0 = .agg #[.int .i64 l0, .int .i64 l1, .int .i64 l2, .int .i64 l3, .int .i64 l4] := hv 0 (by simp)
      have e1 : val 1 = .agg #[.int .i64 m0, .int .i64 m1, .int .i64 m2, .int .i64 m3, .int .i64 m4] := hv 1 (by simp)
      have e2 : val 2 = .agg #[.slice a n c', .slice b m e'] := hv 2 (by simp)
      obtain ⟨a1, c, b1, e, e3, hu, hw, ho⟩ := hv 3 (by simp)
      obtain ⟨g7, e4, h7, h7', H7⟩ := hv 4 (by simp)
      obtain ⟨g8, e5, h8, h8', H8⟩ := hv 5 (by simp)
      have d34 := hd 3 (by simp) 4 (by simp) (by decide)
      have d35 := hd 3 (by simp) 5 (by simp) (by decide)
      have d45 := hd 4 (by simp) 5 (by simp) (by decide)
      have n78 : g7 ≠ g8 := by omega
      have n87 : g8 ≠ g7 := by omega
      have NU : Hid ((∀ g o, a1 = some ⟨g, o, none⟩ → 1 ≤ N → g ≠ g7 ∧ g ≠ g8) ∧ ∀ g o, b1 = some ⟨g, o, none⟩ → 1 ≤ M → g ≠ g7 ∧ g ≠ g8) := ⟨fun g o hg hN => (by have a := ho.out.1 g o hg hN; have b := rdF_le hu.out hg hN; have c := h7.2; have d := h8.2; omega), fun g o hg hN => (by have a := ho.out.2 g o hg hN; have b := rdF_le hw.out hg hN; have c := h7.2; have d := h8.2; omega)⟩
      have HU1 := Lib.hid hu.out.rd
      have HW1 := Lib.hid hw.out.rd
      have y0 := H7.out.1 0 (by omega)
      have y1 := H7.out.1 1 (by omega)
      have y2 := H7.out.1 2 (by omega)
      have y3 := H7.out.1 3 (by omega)
      have y4 := H7.out.1 4 (by omega)
      have y5 := H8.out.1 0 (by omega)
      have y6 := H8.out.1 1 (by omega)
      have f0 := H7.out.2 0 (by omega)
      have f1 := H7.out.2 1 (by omega)
      have f2 := H7.out.2 2 (by omega)
      have f3 := H7.out.2 3 (by omega)
      have f4 := H7.out.2 4 (by omega)
      have f5 := H8.out.2 0 (by omega)
      have f6 := H8.out.2 1 (by omega)
      have gz7 := World.block_lt_of_cell? _ _ y0
      have gz8 := World.block_lt_of_cell? _ _ y5
      simp only at gz7 gz8
      have ⟨x0, x1⟩ : W.cell? ⟨w.heap.size + 1 + 1, 0, none⟩ = some (.int .i64 zn) ∧ W.cell? ⟨w.heap.size + 1 + 1, 1, none⟩ = some (.int .i64 zd) := (by and_intros <;> (with_reducible repeat (first | refine kc_drew ?_ | refine kc_drewN _ ?_ | refine kc_below hb ?_ | (refine kc_new ?_ ?_; (· first | rfl | simp only [sZ]); (· first | rfl | simp)) | (refine kc_set0 ?_ ?_; (· first | rfl | simp)) | exact ct_of (by assumption) | refine ct_drew ?_ | refine ct_drewN _ ?_ | refine ct_below hb ?_ | (refine ct_new ?_ ?_; (· first | rfl | simp only [sZ]); (· first | rfl | simp)) | refine ct_set _ _ ?_ | refine ct_alloc _ ?_ | (refine kc_set ?_ ?_; (focus first | (intro hx; injection hx; omega) | (simp; done))) | refine kc_alloc _ ?_)))
      have hBW : Below w.heap.size w W := (by (with_reducible repeat (first | exact bR | refine bA ?_ | refine bD ?_ | refine bN ?_ | (refine bS ?_ ?_; (· dsimp only; omega)) | refine bl_call ?_ hb)))
      obtain ⟨gb7, _⟩ := h7
      obtain ⟨gb8, _⟩ := h8
      clear hv hd hu hw ho H7 H8
      simp only [putAll, dstOf, List.getD_cons_zero, List.getD_cons_succ, List.getElem?_toArray, List.getElem?_cons_zero, List.getElem?_cons_succ, Option.bind_some, Act.put, List.setIfInBounds_toArray, List.set_cons_zero, List.set_cons_succ, e0, e1, e2, e3, e4, e5]
      refine wpAnyH_ready (rs := [6]) (by kernel_rfl) (by simp) ?_
      refine consH 6 rfl (fun K hK => ?_) ?_
      · go_simp
        refine hK.out _ _ ?_ (fun hHeld => ?_)
        · trivial
        clear hK K
        (try simp only [Act.put, List.setIfInBounds_toArray, List.set_cons_zero, List.set_cons_succ])
        refine wpAnyH_ready (rs := [7]) (by kernel_rfl) (by simp) ?_
        refine consH 7 rfl (fun K hK => ?_) ?_
        · go_simp
          refine hK.out _ _ ?_ (fun hHeld => ?_)
          · trivial
          clear hK K
          (try simp only [Act.put, List.setIfInBounds_toArray, List.set_cons_zero, List.set_cons_succ])
          refine wpAnyH_done (by kernel_rfl) ?_ _
          skip
          go_wp2_with fail
          go_meet
          refine ⟨g7, g8, a1, c, b1, e, rfl, rfl, ⟨?_, ?_, ?_, ?_, ?_, ?_, ?_, ?_, ?_, ?_⟩, ?_, ?_⟩
          all_goals first | ((with_reducible repeat (first | exact x0 | exact x1 | exact y0 | exact y1 | exact y2 | exact y3 | exact y4 | exact y5 | exact y6 | refine kc_drew ?_ | refine kc_drewN _ ?_ | (refine kc_new ?_ ?_; (· first | rfl | simp only [sZ]); (· first | rfl | simp)) | (refine kc_set0 ?_ ?_; (· first | rfl | simp)) | exact ct_of (by assumption) | refine ct_drew ?_ | refine ct_drewN _ ?_ | (refine ct_new ?_ ?_; (· first | rfl | simp only [sZ]); (· first | rfl | simp)) | refine ct_set _ _ ?_ | refine ct_alloc _ ?_ | (refine kc_set ?_ ?_; (focus first | (intro hx; injection hx; omega) | (simp; done))) | refine kc_alloc _ ?_)); done) | ((with_reducible repeat (first | exact hBW | exact bR | refine bA ?_ | refine bD ?_ | refine bN ?_ | (refine bS ?_ ?_; (· dsimp only; omega)))); done) | (refine Lib.hid ?_; repeat (first | with_reducible exact HU1.out | with_reducible exact HW1.out | with_reducible refine rd_set (fun g o hg hN => (NU.out.1 g o hg hN).1) ?_ | with_reducible refine rd_set (fun g o hg hN => (NU.out.1 g o hg hN).2) ?_ | with_reducible refine rd_set (fun g o hg hN => (NU.out.2 g o hg hN).1) ?_ | with_reducible refine rd_set (fun g o hg hN => (NU.out.2 g o hg hN).2) ?_))
        exact AllReadyH.nil
      exact AllReadyH.nil
  case rest =>
    obtain ⟨g7, g8, a1, c, b1, e, rfl, rfl, HB, HU0, HW0⟩ := hcut
    obtain ⟨r0, r1, r2, r3, r4, r5, r6, r7, r8, hB⟩ := HB.out
    have HU : Hid (∀ W, Below wc.heap.size wc W → Rd W (.slice a1 N c) us) := fun W hW => HU0.out.below hW
    have HW : Hid (∀ W, Below wc.heap.size wc W → Rd W (.slice b1 M e) vs) := fun W hW => HW0.out.below hW
    have hC : Below wc.heap.size wc wc := Below.refl _ _
    have gL : g7 < wc.heap.size := World.block_lt_of_cell? _ _ r0
    have gT : g8 < wc.heap.size := World.block_lt_of_cell? _ _ r5
    have gZ : w.heap.size + 1 + 1 < wc.heap.size := World.block_lt_of_cell? _ _ r7
    clear HU0 HW0 HB HX HY HNar HF2
    go_wp2_with (first | (go_at_call 38; ((with_reducible refine (HLim _).out.mono ?_); rintro v w3 ⟨rfl, hk3⟩; have hb3 := hk3.below; have ⟨r0, r1, r2, r3, r4, r5, r6, r7, r8⟩ : w3.cell? ⟨g7, 0, none⟩ = some (.int .i64 m0) ∧ w3.cell? ⟨g7, 1, none⟩ = some (.int .i64 m1) ∧ w3.cell? ⟨g7, 2, none⟩ = some (.int .i64 m2) ∧ w3.cell? ⟨g7, 3, none⟩ = some (.int .i64 m3) ∧ w3.cell? ⟨g7, 4, none⟩ = some (.int .i64 m4) ∧ w3.cell? ⟨g8, 0, none⟩ = some (.slice a1 N c) ∧ w3.cell? ⟨g8, 1, none⟩ = some (.slice b1 M e) ∧ w3.cell? ⟨w.heap.size + 1 + 1, 0, none⟩ = some (.int .i64 zn) ∧ w3.cell? ⟨w.heap.size + 1 + 1, 1, none⟩ = some (.int .i64 zd) := (by and_intros <;> (with_reducible repeat (first | exact r0 | exact r1 | exact r2 | exact r3 | exact r4 | exact r5 | exact r6 | exact r7 | exact r8 | refine kc_drew ?_ | refine kc_drewN _ ?_ | refine kc_below hb3 ?_ | (refine kc_new ?_ ?_; (· first | rfl | simp only [sZ]); (· first | rfl | simp)) | (refine kc_set0 ?_ ?_; (· first | rfl | simp)) | exact ct_of (by assumption) | refine ct_drew ?_ | refine ct_drewN _ ?_ | refine ct_below hb3 ?_ | (refine ct_new ?_ ?_; (· first | rfl | simp only [sZ]); (· first | rfl | simp)) | refine ct_set _ _ ?_ | refine ct_alloc _ ?_ | (refine kc_set ?_ ?_; (focus first | (intro hx; injection hx; omega) | (simp; done))) | refine kc_alloc _ ?_))); have hB : Below w.heap.size w w3 := (by (with_reducible repeat (first | exact hB | exact bR | refine bA ?_ | refine bD ?_ | refine bN ?_ | (refine bS ?_ ?_; (· dsimp only; omega)) | refine bl_call ?_ hb3))); have hC : Below wc.heap.size wc w3 := (by (with_reducible repeat (first | exact hC | exact bR | refine bA ?_ | refine bD ?_ | refine bN ?_ | (refine bS ?_ ?_; (· dsimp only; omega)) | refine bl_call ?_ hb3))); have gL : g7 < w3.heap.size := (World.block_lt_of_cell? _ _ r0); have gT : g8 < w3.heap.size := (World.block_lt_of_cell? _ _ r5); have gZ : w.heap.size + 1 + 1 < w3.heap.size := (World.block_lt_of_cell? _ _ r7))) | (go_at_call 23; refine (lives_any _).mono ?_; rintro v w9 ⟨rfl, hb9⟩; have hB : Below w.heap.size w w9 := (by (with_reducible repeat (first | exact hB | exact bR | refine bA ?_ | refine bD ?_ | refine bN ?_ | (refine bS ?_ ?_; (· dsimp only; omega)) | refine bl_call ?_ hb9)))))
    go_ret
    exact ⟨rfl, by (with_reducible repeat (first | exact hB | exact bR | refine bA ?_ | refine bD ?_ | refine bN ?_ | (refine bS ?_ ?_; (· dsimp only; omega))))⟩
set_option maxHeartbeats 8000000 in
set_option maxRecDepth 100000 in
theorem gearBest_form (a b : Option Addr) (n c' m e' N M : Nat) (us vs xs ys : List Int) (l0 l1 l2 l3 l4 m0 m1 m2 m3 m4 zn zd : Int) (w : World)
    (HX : Hid (Rd w (.slice a n c') xs)) (HY : Hid (Rd w (.slice b m e') ys))
    (HNar : ∀ W, Hid (Calls Try.prog 48 #[.agg #[.int .i64 l0, .int .i64 l1, .int .i64 l2, .int .i64 l3, .int .i64 l4], .int .i64 11] W fun v w' => v = .returned (.agg #[.int .i64 m0, .int .i64 m1, .int .i64 m2, .int .i64 m3, .int .i64 m4]) ∧ Below W.heap.size W w'))
    (HF2 : ∀ W, Rd W (.slice a n c') xs → Rd W (.slice b m e') ys → Hid (Calls Try.prog 32 #[.agg #[.slice a n c', .slice b m e']] W fun v w' => ∃ a' c'' b' e'', v = .returned (.agg #[.slice a' N c'', .slice b' M e'']) ∧ Hid (RdF W.heap.size w' (.slice a' N c'') us) ∧ Hid (RdF W.heap.size w' (.slice b' M e'') vs) ∧ Below W.heap.size W w'))
    (ho : ¬ okF zn zd) (hN : N ≤ 8) (hM : M ≤ 8) (hl : vlF m0 m1 m2 m3 m4 = true) (hV : false = true ↔ FitP us vs m0 m1 m2 m3 m4) : Calls Try.prog 14 #[.agg #[.slice a n c', .slice b m e'], .agg #[.int .i64 l0, .int .i64 l1, .int .i64 l2, .int .i64 l3, .int .i64 l4], .agg #[.int .i64 zn, .int .i64 zd]] w fun e w' => e = .returned (.bool true) ∧ Below w.heap.size w w' := by
  have HLim := fun W => Lib.hid (refLimits_any m0 m1 m2 m3 m4 W)
  simp only [hl] at HLim
  have HFt := fun a c b e W h1 h2 => Lib.hid (refFits_any a b N c M e m0 m1 m2 m3 m4 us vs W h1 h2 (by omega) (by omega) false hV)
  clear hV
  have HVa := fun W => Lib.hid (valid_false zn zd W ho)
  clear ho hl
  go_enter Try.func14, Try.ntmps14
  go_upto_region 1 with fail
  go_cut [7, 8] (fun s t wx => CutBest w N M us vs m0 m1 m2 m3 m4 zn zd s t wx)
  case first =>
    refine wp_region_told [0, 1, 2, 3, 4, 5] [[], [0], [], [1, 2], [], []] (RBest (w.heap.size + 1 + 1 + 1) a b n c' m e' N M us vs l0 l1 l2 l3 l4 m0 m1 m2 m3 m4) (by kernel_rfl) (by kernel_rfl) (by kernel_rfl) (by decide) (by decide) (by kernel_rfl) ?_ ?_ ?_
    · intro i hi v lo hi' W W' h hb
      simp only [List.mem_cons, List.not_mem_nil, or_false] at hi
      rcases hi with rfl | rfl | rfl | rfl | rfl | rfl
      · exact h
      · exact h
      · exact h
      · (obtain ⟨a1, c, b1, e, h1, h2, h3, h4⟩ := h; exact ⟨a1, c, b1, e, h1, h2.out.below hb, h3.out.below hb, h4⟩)
      · (obtain ⟨g, h1, h2, h3, h4⟩ := h; exact ⟨g, h1, h2, h3, fun i hi => kc_below hb (h4.out.1 i hi), fun i hi => kf_below hb (World.block_lt_of_cell? _ _ (h4.out.1 i hi)) (h4.out.2 i hi)⟩)
      · (obtain ⟨g, h1, h2, h3, h4⟩ := h; exact ⟨g, h1, h2, h3, fun i hi => kc_below hb (h4.out.1 i hi), fun i hi => kf_below hb (World.block_lt_of_cell? _ _ (h4.out.1 i hi)) (h4.out.2 i hi)⟩)
    · intro j hj o tl ho W val lo hi hb hv
      simp only [List.mem_cons, List.not_mem_nil, or_false] at hj
      rcases hj with rfl | rfl | rfl | rfl | rfl | rfl
      · injection ho with h1 h2
        subst h1
        clear h2
        refine givesR_of (by rfl) (fun K hK => ?_) (by simp)
        simp only [putAll, dstOf, List.getD_cons_zero, List.getD_cons_succ, List.getElem?_toArray, List.getElem?_cons_zero, List.getElem?_cons_succ, Option.bind_some, Act.put, List.setIfInBounds_toArray, List.set_cons_zero, List.set_cons_succ] at hK ⊢
        (have ⟨x0, x1, x2, x3, x4⟩ : W.cell? ⟨w.heap.size + 1, 0, none⟩ = some (.int .i64 l0) ∧ W.cell? ⟨w.heap.size + 1, 1, none⟩ = some (.int .i64 l1) ∧ W.cell? ⟨w.heap.size + 1, 2, none⟩ = some (.int .i64 l2) ∧ W.cell? ⟨w.heap.size + 1, 3, none⟩ = some (.int .i64 l3) ∧ W.cell? ⟨w.heap.size + 1, 4, none⟩ = some (.int .i64 l4) := (by and_intros <;> (with_reducible repeat (first | refine kc_drew ?_ | refine kc_drewN _ ?_ | refine kc_below hb ?_ | (refine kc_new ?_ ?_; (· first | rfl | simp only [sZ]); (· first | rfl | simp)) | (refine kc_set0 ?_ ?_; (· first | rfl | simp)) | exact ct_of (by assumption) | refine ct_drew ?_ | refine ct_drewN _ ?_ | refine ct_below hb ?_ | (refine ct_new ?_ ?_; (· first | rfl | simp only [sZ]); (· first | rfl | simp)) | refine ct_set _ _ ?_ | refine ct_alloc _ ?_ | (refine kc_set ?_ ?_; (focus first | (intro hx; injection hx; omega) | (simp; done))) | refine kc_alloc _ ?_))); go_simp; refine hK.out _ _ (Below.refl _ _) ?_; exact rfl)
      · injection ho with h1 h2
        subst h1
        clear h2
        have e0 : val 0 = .agg #[.int .i64 l0, .int .i64 l1, .int .i64 l2, .int .i64 l3, .int .i64 l4] := hv 0 (by simp)
        refine givesR_of (by rfl) (fun K hK => ?_) (by simp)
        simp only [putAll, dstOf, List.getD_cons_zero, List.getD_cons_succ, List.getElem?_toArray, List.getElem?_cons_zero, List.getElem?_cons_succ, Option.bind_some, Act.put, List.setIfInBounds_toArray, List.set_cons_zero, List.set_cons_succ, e0] at hK ⊢
        (go_simp; go_at_call 48; ((with_reducible refine (HNar _).out.mono ?_); rintro v w2 ⟨rfl, hb2⟩; dsimp only; refine hK.out _ _ hb2 ?_; exact rfl))
      · injection ho with h1 h2
        subst h1
        clear h2
        refine givesR_of (by rfl) (fun K hK => ?_) (by simp)
        simp only [putAll, dstOf, List.getD_cons_zero, List.getD_cons_succ, List.getElem?_toArray, List.getElem?_cons_zero, List.getElem?_cons_succ, Option.bind_some, Act.put, List.setIfInBounds_toArray, List.set_cons_zero, List.set_cons_succ] at hK ⊢
        (have ⟨x0, x1⟩ : W.cell? ⟨w.heap.size, 0, none⟩ = some (.slice a n c') ∧ W.cell? ⟨w.heap.size, 1, none⟩ = some (.slice b m e') := (by and_intros <;> (with_reducible repeat (first | refine kc_drew ?_ | refine kc_drewN _ ?_ | refine kc_below hb ?_ | (refine kc_new ?_ ?_; (· first | rfl | simp only [sZ]); (· first | rfl | simp)) | (refine kc_set0 ?_ ?_; (· first | rfl | simp)) | exact ct_of (by assumption) | refine ct_drew ?_ | refine ct_drewN _ ?_ | refine ct_below hb ?_ | (refine ct_new ?_ ?_; (· first | rfl | simp only [sZ]); (· first | rfl | simp)) | refine ct_set _ _ ?_ | refine ct_alloc _ ?_ | (refine kc_set ?_ ?_; (focus first | (intro hx; injection hx; omega) | (simp; done))) | refine kc_alloc _ ?_))); go_simp; refine hK.out _ _ (Below.refl _ _) ?_; exact rfl)
      · injection ho with h1 h2
        subst h1
        clear h2
        have e1 : val 1 = .agg #[.int .i64 m0, .int .i64 m1, .int .i64 m2, .int .i64 m3, .int .i64 m4] := hv 1 (by simp)
        have e2 : val 2 = .agg #[.slice a n c', .slice b m e'] := hv 2 (by simp)
        refine givesR_of (by rfl) (fun K hK => ?_) (by simp)
        simp only [putAll, dstOf, List.getD_cons_zero, List.getD_cons_succ, List.getElem?_toArray, List.getElem?_cons_zero, List.getElem?_cons_succ, Option.bind_some, Act.put, List.setIfInBounds_toArray, List.set_cons_zero, List.set_cons_succ, e1, e2] at hK ⊢
        (go_simp; go_at_call 32; ((with_reducible refine (HF2 _ (HX.out.below (by (with_reducible repeat (first | exact bR | refine bA ?_ | refine bD ?_ | refine bN ?_ | (refine bS ?_ ?_; (· dsimp only; omega)) | refine bl_call ?_ hb)))) (HY.out.below (by (with_reducible repeat (first | exact bR | refine bA ?_ | refine bD ?_ | refine bN ?_ | (refine bS ?_ ?_; (· dsimp only; omega)) | refine bl_call ?_ hb))))).out.mono ?_); rintro v w2 ⟨a1, c, b1, e, rfl, hu1, hv1, hb2⟩; dsimp only; refine hK.out _ _ hb2 ?_; exact ⟨a1, c, b1, e, rfl, hu1, hv1, ⟨fun g o hg hN => rdF_lt hu1.out hg hN, fun g o hg hN => rdF_lt hv1.out hg hN⟩⟩))
      · injection ho with h1 h2
        subst h1
        clear h2
        refine givesR_of (by rfl) (fun K hK => ?_) (by simp)
        simp only [putAll, dstOf, List.getD_cons_zero, List.getD_cons_succ, List.getElem?_toArray, List.getElem?_cons_zero, List.getElem?_cons_succ, Option.bind_some, Act.put, List.setIfInBounds_toArray, List.set_cons_zero, List.set_cons_succ] at hK ⊢
        (go_simp; refine hK.out _ _ (by (with_reducible repeat (first | exact bR | refine bA ?_ | refine bD ?_ | refine bN ?_ | (refine bS ?_ ?_; (· dsimp only; omega))))) ?_; exact ⟨_, rfl, ⟨by have := hb.size; (simp only [World.size_alloc] at this); omega, Nat.le_refl _⟩, by simp, fun i hi => (by rcases (show i = 0 ∨ i = 1 ∨ i = 2 ∨ i = 3 ∨ i = 4 by omega) with rfl | rfl | rfl | rfl | rfl <;> exact kc_new rfl rfl), fun i hi => kf_new rfl _⟩)
      · injection ho with h1 h2
        subst h1
        clear h2
        refine givesR_of (by rfl) (fun K hK => ?_) (by simp)
        simp only [putAll, dstOf, List.getD_cons_zero, List.getD_cons_succ, List.getElem?_toArray, List.getElem?_cons_zero, List.getElem?_cons_succ, Option.bind_some, Act.put, List.setIfInBounds_toArray, List.set_cons_zero, List.set_cons_succ] at hK ⊢
        (go_simp; refine hK.out _ _ (by (with_reducible repeat (first | exact bR | refine bA ?_ | refine bD ?_ | refine bN ?_ | (refine bS ?_ ?_; (· dsimp only; omega))))) ?_; exact ⟨_, rfl, ⟨by have := hb.size; (simp only [World.size_alloc] at this); omega, Nat.le_refl _⟩, by simp, fun i hi => (by rcases (show i = 0 ∨ i = 1 by omega) with rfl | rfl <;> exact kc_new rfl rfl), fun i hi => kf_new rfl _⟩)
    · intro W val lo hi hb hv hd
      have e0 : val 0 = .agg #[.int .i64 l0, .int .i64 l1, .int .i64 l2, .int .i64 l3, .int .i64 l4] := hv 0 (by simp)
      have e1 : val 1 = .agg #[.int .i64 m0, .int .i64 m1, .int .i64 m2, .int .i64 m3, .int .i64 m4] := hv 1 (by simp)
      have e2 : val 2 = .agg #[.slice a n c', .slice b m e'] := hv 2 (by simp)
      obtain ⟨a1, c, b1, e, e3, hu, hw, ho⟩ := hv 3 (by simp)
      obtain ⟨g7, e4, h7, h7', H7⟩ := hv 4 (by simp)
      obtain ⟨g8, e5, h8, h8', H8⟩ := hv 5 (by simp)
      have d34 := hd 3 (by simp) 4 (by simp) (by decide)
      have d35 := hd 3 (by simp) 5 (by simp) (by decide)
      have d45 := hd 4 (by simp) 5 (by simp) (by decide)
      have n78 : g7 ≠ g8 := by omega
      have n87 : g8 ≠ g7 := by omega
      have NU : Hid ((∀ g o, a1 = some ⟨g, o, none⟩ → 1 ≤ N → g ≠ g7 ∧ g ≠ g8) ∧ ∀ g o, b1 = some ⟨g, o, none⟩ → 1 ≤ M → g ≠ g7 ∧ g ≠ g8) := ⟨fun g o hg hN => (by have a := ho.out.1 g o hg hN; have b := rdF_le hu.out hg hN; have c := h7.2; have d := h8.2; omega), fun g o hg hN => (by have a := ho.out.2 g o hg hN; have b := rdF_le hw.out hg hN; have c := h7.2; have d := h8.2; omega)⟩
      have HU1 := Lib.hid hu.out.rd
      have HW1 := Lib.hid hw.out.rd
      have y0 := H7.out.1 0 (by omega)
      have y1 := H7.out.1 1 (by omega)
      have y2 := H7.out.1 2 (by omega)
      have y3 := H7.out.1 3 (by omega)
      have y4 := H7.out.1 4 (by omega)
      have y5 := H8.out.1 0 (by omega)
      have y6 := H8.out.1 1 (by omega)
      have f0 := H7.out.2 0 (by omega)
      have f1 := H7.out.2 1 (by omega)
      have f2 := H7.out.2 2 (by omega)
      have f3 := H7.out.2 3 (by omega)
      have f4 := H7.out.2 4 (by omega)
      have f5 := H8.out.2 0 (by omega)
      have f6 := H8.out.2 1 (by omega)
      have gz7 := World.block_lt_of_cell? _ _ y0
      have gz8 := World.block_lt_of_cell? _ _ y5
      simp only at gz7 gz8
      have ⟨x0, x1⟩ : W.cell? ⟨w.heap.size + 1 + 1, 0, none⟩ = some (.int .i64 zn) ∧ W.cell? ⟨w.heap.size + 1 + 1, 1, none⟩ = some (.int .i64 zd) := (by and_intros <;> (with_reducible repeat (first | refine kc_drew ?_ | refine kc_drewN _ ?_ | refine kc_below hb ?_ | (refine kc_new ?_ ?_; (· first | rfl | simp only [sZ]); (· first | rfl | simp)) | (refine kc_set0 ?_ ?_; (· first | rfl | simp)) | exact ct_of (by assumption) | refine ct_drew ?_ | refine ct_drewN _ ?_ | refine ct_below hb ?_ | (refine ct_new ?_ ?_; (· first | rfl | simp only [sZ]); (· first | rfl | simp)) | refine ct_set _ _ ?_ | refine ct_alloc _ ?_ | (refine kc_set ?_ ?_; (focus first | (intro hx; injection hx; omega) | (simp; done))) | refine kc_alloc _ ?_)))
      have hBW : Below w.heap.size w W := (by (with_reducible repeat (first | exact bR | refine bA ?_ | refine bD ?_ | refine bN ?_ | (refine bS ?_ ?_; (· dsimp only; omega)) | refine bl_call ?_ hb)))
      obtain ⟨gb7, _⟩ := h7
      obtain ⟨gb8, _⟩ := h8
      clear hv hd hu hw ho H7 H8
      simp only [putAll, dstOf, List.getD_cons_zero, List.getD_cons_succ, List.getElem?_toArray, List.getElem?_cons_zero, List.getElem?_cons_succ, Option.bind_some, Act.put, List.setIfInBounds_toArray, List.set_cons_zero, List.set_cons_succ, e0, e1, e2, e3, e4, e5]
      refine wpAnyH_ready (rs := [6]) (by kernel_rfl) (by simp) ?_
      refine consH 6 rfl (fun K hK => ?_) ?_
      · go_simp
        refine hK.out _ _ ?_ (fun hHeld => ?_)
        · trivial
        clear hK K
        (try simp only [Act.put, List.setIfInBounds_toArray, List.set_cons_zero, List.set_cons_succ])
        refine wpAnyH_ready (rs := [7]) (by kernel_rfl) (by simp) ?_
        refine consH 7 rfl (fun K hK => ?_) ?_
        · go_simp
          refine hK.out _ _ ?_ (fun hHeld => ?_)
          · trivial
          clear hK K
          (try simp only [Act.put, List.setIfInBounds_toArray, List.set_cons_zero, List.set_cons_succ])
          refine wpAnyH_done (by kernel_rfl) ?_ _
          skip
          go_wp2_with fail
          go_meet
          refine ⟨g7, g8, a1, c, b1, e, rfl, rfl, ⟨?_, ?_, ?_, ?_, ?_, ?_, ?_, ?_, ?_, ?_⟩, ?_, ?_⟩
          all_goals first | ((with_reducible repeat (first | exact x0 | exact x1 | exact y0 | exact y1 | exact y2 | exact y3 | exact y4 | exact y5 | exact y6 | refine kc_drew ?_ | refine kc_drewN _ ?_ | (refine kc_new ?_ ?_; (· first | rfl | simp only [sZ]); (· first | rfl | simp)) | (refine kc_set0 ?_ ?_; (· first | rfl | simp)) | exact ct_of (by assumption) | refine ct_drew ?_ | refine ct_drewN _ ?_ | (refine ct_new ?_ ?_; (· first | rfl | simp only [sZ]); (· first | rfl | simp)) | refine ct_set _ _ ?_ | refine ct_alloc _ ?_ | (refine kc_set ?_ ?_; (focus first | (intro hx; injection hx; omega) | (simp; done))) | refine kc_alloc _ ?_)); done) | ((with_reducible repeat (first | exact hBW | exact bR | refine bA ?_ | refine bD ?_ | refine bN ?_ | (refine bS ?_ ?_; (· dsimp only; omega)))); done) | (refine Lib.hid ?_; repeat (first | with_reducible exact HU1.out | with_reducible exact HW1.out | with_reducible refine rd_set (fun g o hg hN => (NU.out.1 g o hg hN).1) ?_ | with_reducible refine rd_set (fun g o hg hN => (NU.out.1 g o hg hN).2) ?_ | with_reducible refine rd_set (fun g o hg hN => (NU.out.2 g o hg hN).1) ?_ | with_reducible refine rd_set (fun g o hg hN => (NU.out.2 g o hg hN).2) ?_))
        exact AllReadyH.nil
      exact AllReadyH.nil
  case rest =>
    obtain ⟨g7, g8, a1, c, b1, e, rfl, rfl, HB, HU0, HW0⟩ := hcut
    obtain ⟨r0, r1, r2, r3, r4, r5, r6, r7, r8, hB⟩ := HB.out
    have HU : Hid (∀ W, Below wc.heap.size wc W → Rd W (.slice a1 N c) us) := fun W hW => HU0.out.below hW
    have HW : Hid (∀ W, Below wc.heap.size wc W → Rd W (.slice b1 M e) vs) := fun W hW => HW0.out.below hW
    have hC : Below wc.heap.size wc wc := Below.refl _ _
    have gL : g7 < wc.heap.size := World.block_lt_of_cell? _ _ r0
    have gT : g8 < wc.heap.size := World.block_lt_of_cell? _ _ r5
    have gZ : w.heap.size + 1 + 1 < wc.heap.size := World.block_lt_of_cell? _ _ r7
    clear HU0 HW0 HB HX HY HNar HF2
    go_wp2_with (first | (go_at_call 38; ((with_reducible refine (HLim _).out.mono ?_); rintro v w3 ⟨rfl, hk3⟩; have hb3 := hk3.below; have ⟨r0, r1, r2, r3, r4, r5, r6, r7, r8⟩ : w3.cell? ⟨g7, 0, none⟩ = some (.int .i64 m0) ∧ w3.cell? ⟨g7, 1, none⟩ = some (.int .i64 m1) ∧ w3.cell? ⟨g7, 2, none⟩ = some (.int .i64 m2) ∧ w3.cell? ⟨g7, 3, none⟩ = some (.int .i64 m3) ∧ w3.cell? ⟨g7, 4, none⟩ = some (.int .i64 m4) ∧ w3.cell? ⟨g8, 0, none⟩ = some (.slice a1 N c) ∧ w3.cell? ⟨g8, 1, none⟩ = some (.slice b1 M e) ∧ w3.cell? ⟨w.heap.size + 1 + 1, 0, none⟩ = some (.int .i64 zn) ∧ w3.cell? ⟨w.heap.size + 1 + 1, 1, none⟩ = some (.int .i64 zd) := (by and_intros <;> (with_reducible repeat (first | exact r0 | exact r1 | exact r2 | exact r3 | exact r4 | exact r5 | exact r6 | exact r7 | exact r8 | refine kc_drew ?_ | refine kc_drewN _ ?_ | refine kc_below hb3 ?_ | (refine kc_new ?_ ?_; (· first | rfl | simp only [sZ]); (· first | rfl | simp)) | (refine kc_set0 ?_ ?_; (· first | rfl | simp)) | exact ct_of (by assumption) | refine ct_drew ?_ | refine ct_drewN _ ?_ | refine ct_below hb3 ?_ | (refine ct_new ?_ ?_; (· first | rfl | simp only [sZ]); (· first | rfl | simp)) | refine ct_set _ _ ?_ | refine ct_alloc _ ?_ | (refine kc_set ?_ ?_; (focus first | (intro hx; injection hx; omega) | (simp; done))) | refine kc_alloc _ ?_))); have hB : Below w.heap.size w w3 := (by (with_reducible repeat (first | exact hB | exact bR | refine bA ?_ | refine bD ?_ | refine bN ?_ | (refine bS ?_ ?_; (· dsimp only; omega)) | refine bl_call ?_ hb3))); have hC : Below wc.heap.size wc w3 := (by (with_reducible repeat (first | exact hC | exact bR | refine bA ?_ | refine bD ?_ | refine bN ?_ | (refine bS ?_ ?_; (· dsimp only; omega)) | refine bl_call ?_ hb3))); have gL : g7 < w3.heap.size := (World.block_lt_of_cell? _ _ r0); have gT : g8 < w3.heap.size := (World.block_lt_of_cell? _ _ r5); have gZ : w.heap.size + 1 + 1 < w3.heap.size := (World.block_lt_of_cell? _ _ r7))) | (go_at_call 39; ((with_reducible refine (HFt _ _ _ _ _ (HU.out _ (by (with_reducible repeat (first | exact hC | exact bR | refine bA ?_ | refine bD ?_ | refine bN ?_ | (refine bS ?_ ?_; (· dsimp only; omega)))))) (HW.out _ (by (with_reducible repeat (first | exact hC | exact bR | refine bA ?_ | refine bD ?_ | refine bN ?_ | (refine bS ?_ ?_; (· dsimp only; omega))))))).out.mono ?_); rintro v w4 ⟨rfl, hb4⟩; have ⟨r0, r1, r2, r3, r4, r5, r6, r7, r8, r9, r10⟩ : w4.cell? ⟨g7, 0, none⟩ = some (.int .i64 m0) ∧ w4.cell? ⟨g7, 1, none⟩ = some (.int .i64 m1) ∧ w4.cell? ⟨g7, 2, none⟩ = some (.int .i64 m2) ∧ w4.cell? ⟨g7, 3, none⟩ = some (.int .i64 m3) ∧ w4.cell? ⟨g7, 4, none⟩ = some (.int .i64 m4) ∧ w4.cell? ⟨g8, 0, none⟩ = some (.slice a1 N c) ∧ w4.cell? ⟨g8, 1, none⟩ = some (.slice b1 M e) ∧ w4.cell? ⟨w.heap.size + 1 + 1, 0, none⟩ = some (.int .i64 zn) ∧ w4.cell? ⟨w.heap.size + 1 + 1, 1, none⟩ = some (.int .i64 zd) ∧ w4.cell? ⟨w3.heap.size, 0, none⟩ = some (.int .i64 zn) ∧ w4.cell? ⟨w3.heap.size, 1, none⟩ = some (.int .i64 zd) := (by and_intros <;> (with_reducible repeat (first | exact r0 | exact r1 | exact r2 | exact r3 | exact r4 | exact r5 | exact r6 | exact r7 | exact r8 | exact r9 | exact r10 | exact r11 | exact r12 | refine kc_drew ?_ | refine kc_drewN _ ?_ | refine kc_below hb4 ?_ | (refine kc_new ?_ ?_; (· first | rfl | simp only [sZ]); (· first | rfl | simp)) | (refine kc_set0 ?_ ?_; (· first | rfl | simp)) | exact ct_of (by assumption) | refine ct_drew ?_ | refine ct_drewN _ ?_ | refine ct_below hb4 ?_ | (refine ct_new ?_ ?_; (· first | rfl | simp only [sZ]); (· first | rfl | simp)) | refine ct_set _ _ ?_ | refine ct_alloc _ ?_ | (refine kc_set ?_ ?_; (focus first | (intro hx; injection hx; omega) | (simp; done))) | refine kc_alloc _ ?_))); have ⟨r11, r12⟩ : w4.frozen? ⟨w3.heap.size, 0, none⟩ = false ∧ w4.frozen? ⟨w3.heap.size, 1, none⟩ = false := (by and_intros <;> (with_reducible repeat (first | exact r0 | exact r1 | exact r2 | exact r3 | exact r4 | exact r5 | exact r6 | exact r7 | exact r8 | exact r9 | exact r10 | exact r11 | exact r12 | refine kf_drew ?_ | refine kf_drewN _ ?_ | (refine kf_new ?_ _; (· first | rfl | simp only [sZ])) | refine kf_set _ _ ?_ | (refine kf_below hb4 ?_ ?_; (focus simp only [sZ]; omega)) | (refine kf_alloc _ ?_ ?_; (focus first | (simp only [sZ]; omega) | (dsimp only; omega)))))); have hB : Below w.heap.size w w4 := (by (with_reducible repeat (first | exact hB | exact bR | refine bA ?_ | refine bD ?_ | refine bN ?_ | (refine bS ?_ ?_; (· dsimp only; omega)) | refine bl_call ?_ hb4))); have hC : Below wc.heap.size wc w4 := (by (with_reducible repeat (first | exact hC | exact bR | refine bA ?_ | refine bD ?_ | refine bN ?_ | (refine bS ?_ ?_; (· dsimp only; omega)) | refine bl_call ?_ hb4))); have gL : g7 < w4.heap.size := (World.block_lt_of_cell? _ _ r0); have gT : g8 < w4.heap.size := (World.block_lt_of_cell? _ _ r5); have gZ : w.heap.size + 1 + 1 < w4.heap.size := (World.block_lt_of_cell? _ _ r7); have gA : w3.heap.size < w4.heap.size := (World.block_lt_of_cell? _ _ r9))) | (go_at_call 22; ((with_reducible refine (HVa _).out.mono ?_); rintro v w7 ⟨rfl, hb7⟩; have ⟨r0, r1, r2, r3, r4, r5, r6, r7, r8, r9, r10⟩ : w7.cell? ⟨g7, 0, none⟩ = some (.int .i64 m0) ∧ w7.cell? ⟨g7, 1, none⟩ = some (.int .i64 m1) ∧ w7.cell? ⟨g7, 2, none⟩ = some (.int .i64 m2) ∧ w7.cell? ⟨g7, 3, none⟩ = some (.int .i64 m3) ∧ w7.cell? ⟨g7, 4, none⟩ = some (.int .i64 m4) ∧ w7.cell? ⟨g8, 0, none⟩ = some (.slice a1 N c) ∧ w7.cell? ⟨g8, 1, none⟩ = some (.slice b1 M e) ∧ w7.cell? ⟨w.heap.size + 1 + 1, 0, none⟩ = some (.int .i64 zn) ∧ w7.cell? ⟨w.heap.size + 1 + 1, 1, none⟩ = some (.int .i64 zd) ∧ w7.cell? ⟨w3.heap.size, 0, none⟩ = some (.int .i64 zn) ∧ w7.cell? ⟨w3.heap.size, 1, none⟩ = some (.int .i64 zd) := (by and_intros <;> (with_reducible repeat (first | exact r0 | exact r1 | exact r2 | exact r3 | exact r4 | exact r5 | exact r6 | exact r7 | exact r8 | exact r9 | exact r10 | exact r11 | exact r12 | refine kc_drew ?_ | refine kc_drewN _ ?_ | refine kc_below hb7 ?_ | (refine kc_new ?_ ?_; (· first | rfl | simp only [sZ]); (· first | rfl | simp)) | (refine kc_set0 ?_ ?_; (· first | rfl | simp)) | exact ct_of (by assumption) | refine ct_drew ?_ | refine ct_drewN _ ?_ | refine ct_below hb7 ?_ | (refine ct_new ?_ ?_; (· first | rfl | simp only [sZ]); (· first | rfl | simp)) | refine ct_set _ _ ?_ | refine ct_alloc _ ?_ | (refine kc_set ?_ ?_; (focus first | (intro hx; injection hx; omega) | (simp; done))) | refine kc_alloc _ ?_))); have ⟨r11, r12⟩ : w7.frozen? ⟨w3.heap.size, 0, none⟩ = false ∧ w7.frozen? ⟨w3.heap.size, 1, none⟩ = false := (by and_intros <;> (with_reducible repeat (first | exact r0 | exact r1 | exact r2 | exact r3 | exact r4 | exact r5 | exact r6 | exact r7 | exact r8 | exact r9 | exact r10 | exact r11 | exact r12 | refine kf_drew ?_ | refine kf_drewN _ ?_ | (refine kf_new ?_ _; (· first | rfl | simp only [sZ])) | refine kf_set _ _ ?_ | (refine kf_below hb7 ?_ ?_; (focus simp only [sZ]; omega)) | (refine kf_alloc _ ?_ ?_; (focus first | (simp only [sZ]; omega) | (dsimp only; omega)))))); have hB : Below w.heap.size w w7 := (by (with_reducible repeat (first | exact hB | exact bR | refine bA ?_ | refine bD ?_ | refine bN ?_ | (refine bS ?_ ?_; (· dsimp only; omega)) | refine bl_call ?_ hb7))); have hC : Below wc.heap.size wc w7 := (by (with_reducible repeat (first | exact hC | exact bR | refine bA ?_ | refine bD ?_ | refine bN ?_ | (refine bS ?_ ?_; (· dsimp only; omega)) | refine bl_call ?_ hb7))); have gL : g7 < w7.heap.size := (World.block_lt_of_cell? _ _ r0); have gT : g8 < w7.heap.size := (World.block_lt_of_cell? _ _ r5); have gZ : w.heap.size + 1 + 1 < w7.heap.size := (World.block_lt_of_cell? _ _ r7); have gA : w3.heap.size < w7.heap.size := (World.block_lt_of_cell? _ _ r9))) | (go_at_call 23; refine (lives_any _).mono ?_; rintro v w9 ⟨rfl, hb9⟩; have hB : Below w.heap.size w w9 := (by (with_reducible repeat (first | exact hB | exact bR | refine bA ?_ | refine bD ?_ | refine bN ?_ | (refine bS ?_ ?_; (· dsimp only; omega)) | refine bl_call ?_ hb9)))))
    go_ret
    exact ⟨rfl, by (with_reducible repeat (first | exact hB | exact bR | refine bA ?_ | refine bD ?_ | refine bN ?_ | (refine bS ?_ ?_; (· dsimp only; omega))))⟩
set_option maxHeartbeats 8000000 in
set_option maxRecDepth 100000 in
theorem gearBest_low (a b : Option Addr) (n c' m e' N M : Nat) (us vs xs ys : List Int) (l0 l1 l2 l3 l4 m0 m1 m2 m3 m4 zn zd : Int) (w : World)
    (HX : Hid (Rd w (.slice a n c') xs)) (HY : Hid (Rd w (.slice b m e') ys))
    (HNar : ∀ W, Hid (Calls Try.prog 48 #[.agg #[.int .i64 l0, .int .i64 l1, .int .i64 l2, .int .i64 l3, .int .i64 l4], .int .i64 11] W fun v w' => v = .returned (.agg #[.int .i64 m0, .int .i64 m1, .int .i64 m2, .int .i64 m3, .int .i64 m4]) ∧ Below W.heap.size W w'))
    (HF2 : ∀ W, Rd W (.slice a n c') xs → Rd W (.slice b m e') ys → Hid (Calls Try.prog 32 #[.agg #[.slice a n c', .slice b m e']] W fun v w' => ∃ a' c'' b' e'', v = .returned (.agg #[.slice a' N c'', .slice b' M e'']) ∧ Hid (RdF W.heap.size w' (.slice a' N c'') us) ∧ Hid (RdF W.heap.size w' (.slice b' M e'') vs) ∧ Below W.heap.size W w'))
    (ho : okF zn zd) (hz : zn ≤ 0) (hN : N ≤ 8) (hM : M ≤ 8) (hl : vlF m0 m1 m2 m3 m4 = true) (hV : false = true ↔ FitP us vs m0 m1 m2 m3 m4) : Calls Try.prog 14 #[.agg #[.slice a n c', .slice b m e'], .agg #[.int .i64 l0, .int .i64 l1, .int .i64 l2, .int .i64 l3, .int .i64 l4], .agg #[.int .i64 zn, .int .i64 zd]] w fun e w' => e = .returned (.bool true) ∧ Below w.heap.size w w' := by
  have HLim := fun W => Lib.hid (refLimits_any m0 m1 m2 m3 m4 W)
  simp only [hl] at HLim
  have HFt := fun a c b e W h1 h2 => Lib.hid (refFits_any a b N c M e m0 m1 m2 m3 m4 us vs W h1 h2 (by omega) (by omega) false hV)
  clear hV
  have HVa := fun W => Lib.hid (valid_true zn zd W ho)
  clear ho hl
  go_enter Try.func14, Try.ntmps14
  go_upto_region 1 with fail
  go_cut [7, 8] (fun s t wx => CutBest w N M us vs m0 m1 m2 m3 m4 zn zd s t wx)
  case first =>
    refine wp_region_told [0, 1, 2, 3, 4, 5] [[], [0], [], [1, 2], [], []] (RBest (w.heap.size + 1 + 1 + 1) a b n c' m e' N M us vs l0 l1 l2 l3 l4 m0 m1 m2 m3 m4) (by kernel_rfl) (by kernel_rfl) (by kernel_rfl) (by decide) (by decide) (by kernel_rfl) ?_ ?_ ?_
    · intro i hi v lo hi' W W' h hb
      simp only [List.mem_cons, List.not_mem_nil, or_false] at hi
      rcases hi with rfl | rfl | rfl | rfl | rfl | rfl
      · exact h
      · exact h
      · exact h
      · (obtain ⟨a1, c, b1, e, h1, h2, h3, h4⟩ := h; exact ⟨a1, c, b1, e, h1, h2.out.below hb, h3.out.below hb, h4⟩)
      · (obtain ⟨g, h1, h2, h3, h4⟩ := h; exact ⟨g, h1, h2, h3, fun i hi => kc_below hb (h4.out.1 i hi), fun i hi => kf_below hb (World.block_lt_of_cell? _ _ (h4.out.1 i hi)) (h4.out.2 i hi)⟩)
      · (obtain ⟨g, h1, h2, h3, h4⟩ := h; exact ⟨g, h1, h2, h3, fun i hi => kc_below hb (h4.out.1 i hi), fun i hi => kf_below hb (World.block_lt_of_cell? _ _ (h4.out.1 i hi)) (h4.out.2 i hi)⟩)
    · intro j hj o tl ho W val lo hi hb hv
      simp only [List.mem_cons, List.not_mem_nil, or_false] at hj
      rcases hj with rfl | rfl | rfl | rfl | rfl | rfl
      · injection ho with h1 h2
        subst h1
        clear h2
        refine givesR_of (by rfl) (fun K hK => ?_) (by simp)
        simp only [putAll, dstOf, List.getD_cons_zero, List.getD_cons_succ, List.getElem?_toArray, List.getElem?_cons_zero, List.getElem?_cons_succ, Option.bind_some, Act.put, List.setIfInBounds_toArray, List.set_cons_zero, List.set_cons_succ] at hK ⊢
        (have ⟨x0, x1, x2, x3, x4⟩ : W.cell? ⟨w.heap.size + 1, 0, none⟩ = some (.int .i64 l0) ∧ W.cell? ⟨w.heap.size + 1, 1, none⟩ = some (.int .i64 l1) ∧ W.cell? ⟨w.heap.size + 1, 2, none⟩ = some (.int .i64 l2) ∧ W.cell? ⟨w.heap.size + 1, 3, none⟩ = some (.int .i64 l3) ∧ W.cell? ⟨w.heap.size + 1, 4, none⟩ = some (.int .i64 l4) := (by and_intros <;> (with_reducible repeat (first | refine kc_drew ?_ | refine kc_drewN _ ?_ | refine kc_below hb ?_ | (refine kc_new ?_ ?_; (· first | rfl | simp only [sZ]); (· first | rfl | simp)) | (refine kc_set0 ?_ ?_; (· first | rfl | simp)) | exact ct_of (by assumption) | refine ct_drew ?_ | refine ct_drewN _ ?_ | refine ct_below hb ?_ | (refine ct_new ?_ ?_; (· first | rfl | simp only [sZ]); (· first | rfl | simp)) | refine ct_set _ _ ?_ | refine ct_alloc _ ?_ | (refine kc_set ?_ ?_; (focus first | (intro hx; injection hx; omega) | (simp; done))) | refine kc_alloc _ ?_))); go_simp; refine hK.out _ _ (Below.refl _ _) ?_; exact rfl)
      · injection ho with h1 h2
        subst h1
        clear h2
        have e0 : val 0 = .agg #[.int .i64 l0, .int .i64 l1, .int .i64 l2, .int .i64 l3, .int .i64 l4] := hv 0 (by simp)
        refine givesR_of (by rfl) (fun K hK => ?_) (by simp)
        simp only [putAll, dstOf, List.getD_cons_zero, List.getD_cons_succ, List.getElem?_toArray, List.getElem?_cons_zero, List.getElem?_cons_succ, Option.bind_some, Act.put, List.setIfInBounds_toArray, List.set_cons_zero, List.set_cons_succ, e0] at hK ⊢
        (go_simp; go_at_call 48; ((with_reducible refine (HNar _).out.mono ?_); rintro v w2 ⟨rfl, hb2⟩; dsimp only; refine hK.out _ _ hb2 ?_; exact rfl))
      · injection ho with h1 h2
        subst h1
        clear h2
        refine givesR_of (by rfl) (fun K hK => ?_) (by simp)
        simp only [putAll, dstOf, List.getD_cons_zero, List.getD_cons_succ, List.getElem?_toArray, List.getElem?_cons_zero, List.getElem?_cons_succ, Option.bind_some, Act.put, List.setIfInBounds_toArray, List.set_cons_zero, List.set_cons_succ] at hK ⊢
        (have ⟨x0, x1⟩ : W.cell? ⟨w.heap.size, 0, none⟩ = some (.slice a n c') ∧ W.cell? ⟨w.heap.size, 1, none⟩ = some (.slice b m e') := (by and_intros <;> (with_reducible repeat (first | refine kc_drew ?_ | refine kc_drewN _ ?_ | refine kc_below hb ?_ | (refine kc_new ?_ ?_; (· first | rfl | simp only [sZ]); (· first | rfl | simp)) | (refine kc_set0 ?_ ?_; (· first | rfl | simp)) | exact ct_of (by assumption) | refine ct_drew ?_ | refine ct_drewN _ ?_ | refine ct_below hb ?_ | (refine ct_new ?_ ?_; (· first | rfl | simp only [sZ]); (· first | rfl | simp)) | refine ct_set _ _ ?_ | refine ct_alloc _ ?_ | (refine kc_set ?_ ?_; (focus first | (intro hx; injection hx; omega) | (simp; done))) | refine kc_alloc _ ?_))); go_simp; refine hK.out _ _ (Below.refl _ _) ?_; exact rfl)
      · injection ho with h1 h2
        subst h1
        clear h2
        have e1 : val 1 = .agg #[.int .i64 m0, .int .i64 m1, .int .i64 m2, .int .i64 m3, .int .i64 m4] := hv 1 (by simp)
        have e2 : val 2 = .agg #[.slice a n c', .slice b m e'] := hv 2 (by simp)
        refine givesR_of (by rfl) (fun K hK => ?_) (by simp)
        simp only [putAll, dstOf, List.getD_cons_zero, List.getD_cons_succ, List.getElem?_toArray, List.getElem?_cons_zero, List.getElem?_cons_succ, Option.bind_some, Act.put, List.setIfInBounds_toArray, List.set_cons_zero, List.set_cons_succ, e1, e2] at hK ⊢
        (go_simp; go_at_call 32; ((with_reducible refine (HF2 _ (HX.out.below (by (with_reducible repeat (first | exact bR | refine bA ?_ | refine bD ?_ | refine bN ?_ | (refine bS ?_ ?_; (· dsimp only; omega)) | refine bl_call ?_ hb)))) (HY.out.below (by (with_reducible repeat (first | exact bR | refine bA ?_ | refine bD ?_ | refine bN ?_ | (refine bS ?_ ?_; (· dsimp only; omega)) | refine bl_call ?_ hb))))).out.mono ?_); rintro v w2 ⟨a1, c, b1, e, rfl, hu1, hv1, hb2⟩; dsimp only; refine hK.out _ _ hb2 ?_; exact ⟨a1, c, b1, e, rfl, hu1, hv1, ⟨fun g o hg hN => rdF_lt hu1.out hg hN, fun g o hg hN => rdF_lt hv1.out hg hN⟩⟩))
      · injection ho with h1 h2
        subst h1
        clear h2
        refine givesR_of (by rfl) (fun K hK => ?_) (by simp)
        simp only [putAll, dstOf, List.getD_cons_zero, List.getD_cons_succ, List.getElem?_toArray, List.getElem?_cons_zero, List.getElem?_cons_succ, Option.bind_some, Act.put, List.setIfInBounds_toArray, List.set_cons_zero, List.set_cons_succ] at hK ⊢
        (go_simp; refine hK.out _ _ (by (with_reducible repeat (first | exact bR | refine bA ?_ | refine bD ?_ | refine bN ?_ | (refine bS ?_ ?_; (· dsimp only; omega))))) ?_; exact ⟨_, rfl, ⟨by have := hb.size; (simp only [World.size_alloc] at this); omega, Nat.le_refl _⟩, by simp, fun i hi => (by rcases (show i = 0 ∨ i = 1 ∨ i = 2 ∨ i = 3 ∨ i = 4 by omega) with rfl | rfl | rfl | rfl | rfl <;> exact kc_new rfl rfl), fun i hi => kf_new rfl _⟩)
      · injection ho with h1 h2
        subst h1
        clear h2
        refine givesR_of (by rfl) (fun K hK => ?_) (by simp)
        simp only [putAll, dstOf, List.getD_cons_zero, List.getD_cons_succ, List.getElem?_toArray, List.getElem?_cons_zero, List.getElem?_cons_succ, Option.bind_some, Act.put, List.setIfInBounds_toArray, List.set_cons_zero, List.set_cons_succ] at hK ⊢
        (go_simp; refine hK.out _ _ (by (with_reducible repeat (first | exact bR | refine bA ?_ | refine bD ?_ | refine bN ?_ | (refine bS ?_ ?_; (· dsimp only; omega))))) ?_; exact ⟨_, rfl, ⟨by have := hb.size; (simp only [World.size_alloc] at this); omega, Nat.le_refl _⟩, by simp, fun i hi => (by rcases (show i = 0 ∨ i = 1 by omega) with rfl | rfl <;> exact kc_new rfl rfl), fun i hi => kf_new rfl _⟩)
    · intro W val lo hi hb hv hd
      have e0 : val 0 = .agg #[.int .i64 l0, .int .i64 l1, .int .i64 l2, .int .i64 l3, .int .i64 l4] := hv 0 (by simp)
      have e1 : val 1 = .agg #[.int .i64 m0, .int .i64 m1, .int .i64 m2, .int .i64 m3, .int .i64 m4] := hv 1 (by simp)
      have e2 : val 2 = .agg #[.slice a n c', .slice b m e'] := hv 2 (by simp)
      obtain ⟨a1, c, b1, e, e3, hu, hw, ho⟩ := hv 3 (by simp)
      obtain ⟨g7, e4, h7, h7', H7⟩ := hv 4 (by simp)
      obtain ⟨g8, e5, h8, h8', H8⟩ := hv 5 (by simp)
      have d34 := hd 3 (by simp) 4 (by simp) (by decide)
      have d35 := hd 3 (by simp) 5 (by simp) (by decide)
      have d45 := hd 4 (by simp) 5 (by simp) (by decide)
      have n78 : g7 ≠ g8 := by omega
      have n87 : g8 ≠ g7 := by omega
      have NU : Hid ((∀ g o, a1 = some ⟨g, o, none⟩ → 1 ≤ N → g ≠ g7 ∧ g ≠ g8) ∧ ∀ g o, b1 = some ⟨g, o, none⟩ → 1 ≤ M → g ≠ g7 ∧ g ≠ g8) := ⟨fun g o hg hN => (by have a := ho.out.1 g o hg hN; have b := rdF_le hu.out hg hN; have c := h7.2; have d := h8.2; omega), fun g o hg hN => (by have a := ho.out.2 g o hg hN; have b := rdF_le hw.out hg hN; have c := h7.2; have d := h8.2; omega)⟩
      have HU1 := Lib.hid hu.out.rd
      have HW1 := Lib.hid hw.out.rd
      have y0 := H7.out.1 0 (by omega)
      have y1 := H7.out.1 1 (by omega)
      have y2 := H7.out.1 2 (by omega)
      have y3 := H7.out.1 3 (by omega)
      have y4 := H7.out.1 4 (by omega)
      have y5 := H8.out.1 0 (by omega)
      have y6 := H8.out.1 1 (by omega)
      have f0 := H7.out.2 0 (by omega)
      have f1 := H7.out.2 1 (by omega)
      have f2 := H7.out.2 2 (by omega)
      have f3 := H7.out.2 3 (by omega)
      have f4 := H7.out.2 4 (by omega)
      have f5 := H8.out.2 0 (by omega)
      have f6 := H8.out.2 1 (by omega)
      have gz7 := World.block_lt_of_cell? _ _ y0
      have gz8 := World.block_lt_of_cell? _ _ y5
      simp only at gz7 gz8
      have ⟨x0, x1⟩ : W.cell? ⟨w.heap.size + 1 + 1, 0, none⟩ = some (.int .i64 zn) ∧ W.cell? ⟨w.heap.size + 1 + 1, 1, none⟩ = some (.int .i64 zd) := (by and_intros <;> (with_reducible repeat (first | refine kc_drew ?_ | refine kc_drewN _ ?_ | refine kc_below hb ?_ | (refine kc_new ?_ ?_; (· first | rfl | simp only [sZ]); (· first | rfl | simp)) | (refine kc_set0 ?_ ?_; (· first | rfl | simp)) | exact ct_of (by assumption) | refine ct_drew ?_ | refine ct_drewN _ ?_ | refine ct_below hb ?_ | (refine ct_new ?_ ?_; (· first | rfl | simp only [sZ]); (· first | rfl | simp)) | refine ct_set _ _ ?_ | refine ct_alloc _ ?_ | (refine kc_set ?_ ?_; (focus first | (intro hx; injection hx; omega) | (simp; done))) | refine kc_alloc _ ?_)))
      have hBW : Below w.heap.size w W := (by (with_reducible repeat (first | exact bR | refine bA ?_ | refine bD ?_ | refine bN ?_ | (refine bS ?_ ?_; (· dsimp only; omega)) | refine bl_call ?_ hb)))
      obtain ⟨gb7, _⟩ := h7
      obtain ⟨gb8, _⟩ := h8
      clear hv hd hu hw ho H7 H8
      simp only [putAll, dstOf, List.getD_cons_zero, List.getD_cons_succ, List.getElem?_toArray, List.getElem?_cons_zero, List.getElem?_cons_succ, Option.bind_some, Act.put, List.setIfInBounds_toArray, List.set_cons_zero, List.set_cons_succ, e0, e1, e2, e3, e4, e5]
      refine wpAnyH_ready (rs := [6]) (by kernel_rfl) (by simp) ?_
      refine consH 6 rfl (fun K hK => ?_) ?_
      · go_simp
        refine hK.out _ _ ?_ (fun hHeld => ?_)
        · trivial
        clear hK K
        (try simp only [Act.put, List.setIfInBounds_toArray, List.set_cons_zero, List.set_cons_succ])
        refine wpAnyH_ready (rs := [7]) (by kernel_rfl) (by simp) ?_
        refine consH 7 rfl (fun K hK => ?_) ?_
        · go_simp
          refine hK.out _ _ ?_ (fun hHeld => ?_)
          · trivial
          clear hK K
          (try simp only [Act.put, List.setIfInBounds_toArray, List.set_cons_zero, List.set_cons_succ])
          refine wpAnyH_done (by kernel_rfl) ?_ _
          skip
          go_wp2_with fail
          go_meet
          refine ⟨g7, g8, a1, c, b1, e, rfl, rfl, ⟨?_, ?_, ?_, ?_, ?_, ?_, ?_, ?_, ?_, ?_⟩, ?_, ?_⟩
          all_goals first | ((with_reducible repeat (first | exact x0 | exact x1 | exact y0 | exact y1 | exact y2 | exact y3 | exact y4 | exact y5 | exact y6 | refine kc_drew ?_ | refine kc_drewN _ ?_ | (refine kc_new ?_ ?_; (· first | rfl | simp only [sZ]); (· first | rfl | simp)) | (refine kc_set0 ?_ ?_; (· first | rfl | simp)) | exact ct_of (by assumption) | refine ct_drew ?_ | refine ct_drewN _ ?_ | (refine ct_new ?_ ?_; (· first | rfl | simp only [sZ]); (· first | rfl | simp)) | refine ct_set _ _ ?_ | refine ct_alloc _ ?_ | (refine kc_set ?_ ?_; (focus first | (intro hx; injection hx; omega) | (simp; done))) | refine kc_alloc _ ?_)); done) | ((with_reducible repeat (first | exact hBW | exact bR | refine bA ?_ | refine bD ?_ | refine bN ?_ | (refine bS ?_ ?_; (· dsimp only; omega)))); done) | (refine Lib.hid ?_; repeat (first | with_reducible exact HU1.out | with_reducible exact HW1.out | with_reducible refine rd_set (fun g o hg hN => (NU.out.1 g o hg hN).1) ?_ | with_reducible refine rd_set (fun g o hg hN => (NU.out.1 g o hg hN).2) ?_ | with_reducible refine rd_set (fun g o hg hN => (NU.out.2 g o hg hN).1) ?_ | with_reducible refine rd_set (fun g o hg hN => (NU.out.2 g o hg hN).2) ?_))
        exact AllReadyH.nil
      exact AllReadyH.nil
  case rest =>
    obtain ⟨g7, g8, a1, c, b1, e, rfl, rfl, HB, HU0, HW0⟩ := hcut
    obtain ⟨r0, r1, r2, r3, r4, r5, r6, r7, r8, hB⟩ := HB.out
    have HU : Hid (∀ W, Below wc.heap.size wc W → Rd W (.slice a1 N c) us) := fun W hW => HU0.out.below hW
    have HW : Hid (∀ W, Below wc.heap.size wc W → Rd W (.slice b1 M e) vs) := fun W hW => HW0.out.below hW
    have hC : Below wc.heap.size wc wc := Below.refl _ _
    have gL : g7 < wc.heap.size := World.block_lt_of_cell? _ _ r0
    have gT : g8 < wc.heap.size := World.block_lt_of_cell? _ _ r5
    have gZ : w.heap.size + 1 + 1 < wc.heap.size := World.block_lt_of_cell? _ _ r7
    clear HU0 HW0 HB HX HY HNar HF2
    go_wp2_with (first | (go_at_call 38; ((with_reducible refine (HLim _).out.mono ?_); rintro v w3 ⟨rfl, hk3⟩; have hb3 := hk3.below; have ⟨r0, r1, r2, r3, r4, r5, r6, r7, r8⟩ : w3.cell? ⟨g7, 0, none⟩ = some (.int .i64 m0) ∧ w3.cell? ⟨g7, 1, none⟩ = some (.int .i64 m1) ∧ w3.cell? ⟨g7, 2, none⟩ = some (.int .i64 m2) ∧ w3.cell? ⟨g7, 3, none⟩ = some (.int .i64 m3) ∧ w3.cell? ⟨g7, 4, none⟩ = some (.int .i64 m4) ∧ w3.cell? ⟨g8, 0, none⟩ = some (.slice a1 N c) ∧ w3.cell? ⟨g8, 1, none⟩ = some (.slice b1 M e) ∧ w3.cell? ⟨w.heap.size + 1 + 1, 0, none⟩ = some (.int .i64 zn) ∧ w3.cell? ⟨w.heap.size + 1 + 1, 1, none⟩ = some (.int .i64 zd) := (by and_intros <;> (with_reducible repeat (first | exact r0 | exact r1 | exact r2 | exact r3 | exact r4 | exact r5 | exact r6 | exact r7 | exact r8 | refine kc_drew ?_ | refine kc_drewN _ ?_ | refine kc_below hb3 ?_ | (refine kc_new ?_ ?_; (· first | rfl | simp only [sZ]); (· first | rfl | simp)) | (refine kc_set0 ?_ ?_; (· first | rfl | simp)) | exact ct_of (by assumption) | refine ct_drew ?_ | refine ct_drewN _ ?_ | refine ct_below hb3 ?_ | (refine ct_new ?_ ?_; (· first | rfl | simp only [sZ]); (· first | rfl | simp)) | refine ct_set _ _ ?_ | refine ct_alloc _ ?_ | (refine kc_set ?_ ?_; (focus first | (intro hx; injection hx; omega) | (simp; done))) | refine kc_alloc _ ?_))); have hB : Below w.heap.size w w3 := (by (with_reducible repeat (first | exact hB | exact bR | refine bA ?_ | refine bD ?_ | refine bN ?_ | (refine bS ?_ ?_; (· dsimp only; omega)) | refine bl_call ?_ hb3))); have hC : Below wc.heap.size wc w3 := (by (with_reducible repeat (first | exact hC | exact bR | refine bA ?_ | refine bD ?_ | refine bN ?_ | (refine bS ?_ ?_; (· dsimp only; omega)) | refine bl_call ?_ hb3))); have gL : g7 < w3.heap.size := (World.block_lt_of_cell? _ _ r0); have gT : g8 < w3.heap.size := (World.block_lt_of_cell? _ _ r5); have gZ : w.heap.size + 1 + 1 < w3.heap.size := (World.block_lt_of_cell? _ _ r7))) | (go_at_call 39; ((with_reducible refine (HFt _ _ _ _ _ (HU.out _ (by (with_reducible repeat (first | exact hC | exact bR | refine bA ?_ | refine bD ?_ | refine bN ?_ | (refine bS ?_ ?_; (· dsimp only; omega)))))) (HW.out _ (by (with_reducible repeat (first | exact hC | exact bR | refine bA ?_ | refine bD ?_ | refine bN ?_ | (refine bS ?_ ?_; (· dsimp only; omega))))))).out.mono ?_); rintro v w4 ⟨rfl, hb4⟩; have ⟨r0, r1, r2, r3, r4, r5, r6, r7, r8, r9, r10⟩ : w4.cell? ⟨g7, 0, none⟩ = some (.int .i64 m0) ∧ w4.cell? ⟨g7, 1, none⟩ = some (.int .i64 m1) ∧ w4.cell? ⟨g7, 2, none⟩ = some (.int .i64 m2) ∧ w4.cell? ⟨g7, 3, none⟩ = some (.int .i64 m3) ∧ w4.cell? ⟨g7, 4, none⟩ = some (.int .i64 m4) ∧ w4.cell? ⟨g8, 0, none⟩ = some (.slice a1 N c) ∧ w4.cell? ⟨g8, 1, none⟩ = some (.slice b1 M e) ∧ w4.cell? ⟨w.heap.size + 1 + 1, 0, none⟩ = some (.int .i64 zn) ∧ w4.cell? ⟨w.heap.size + 1 + 1, 1, none⟩ = some (.int .i64 zd) ∧ w4.cell? ⟨w3.heap.size, 0, none⟩ = some (.int .i64 zn) ∧ w4.cell? ⟨w3.heap.size, 1, none⟩ = some (.int .i64 zd) := (by and_intros <;> (with_reducible repeat (first | exact r0 | exact r1 | exact r2 | exact r3 | exact r4 | exact r5 | exact r6 | exact r7 | exact r8 | exact r9 | exact r10 | exact r11 | exact r12 | refine kc_drew ?_ | refine kc_drewN _ ?_ | refine kc_below hb4 ?_ | (refine kc_new ?_ ?_; (· first | rfl | simp only [sZ]); (· first | rfl | simp)) | (refine kc_set0 ?_ ?_; (· first | rfl | simp)) | exact ct_of (by assumption) | refine ct_drew ?_ | refine ct_drewN _ ?_ | refine ct_below hb4 ?_ | (refine ct_new ?_ ?_; (· first | rfl | simp only [sZ]); (· first | rfl | simp)) | refine ct_set _ _ ?_ | refine ct_alloc _ ?_ | (refine kc_set ?_ ?_; (focus first | (intro hx; injection hx; omega) | (simp; done))) | refine kc_alloc _ ?_))); have ⟨r11, r12⟩ : w4.frozen? ⟨w3.heap.size, 0, none⟩ = false ∧ w4.frozen? ⟨w3.heap.size, 1, none⟩ = false := (by and_intros <;> (with_reducible repeat (first | exact r0 | exact r1 | exact r2 | exact r3 | exact r4 | exact r5 | exact r6 | exact r7 | exact r8 | exact r9 | exact r10 | exact r11 | exact r12 | refine kf_drew ?_ | refine kf_drewN _ ?_ | (refine kf_new ?_ _; (· first | rfl | simp only [sZ])) | refine kf_set _ _ ?_ | (refine kf_below hb4 ?_ ?_; (focus simp only [sZ]; omega)) | (refine kf_alloc _ ?_ ?_; (focus first | (simp only [sZ]; omega) | (dsimp only; omega)))))); have hB : Below w.heap.size w w4 := (by (with_reducible repeat (first | exact hB | exact bR | refine bA ?_ | refine bD ?_ | refine bN ?_ | (refine bS ?_ ?_; (· dsimp only; omega)) | refine bl_call ?_ hb4))); have hC : Below wc.heap.size wc w4 := (by (with_reducible repeat (first | exact hC | exact bR | refine bA ?_ | refine bD ?_ | refine bN ?_ | (refine bS ?_ ?_; (· dsimp only; omega)) | refine bl_call ?_ hb4))); have gL : g7 < w4.heap.size := (World.block_lt_of_cell? _ _ r0); have gT : g8 < w4.heap.size := (World.block_lt_of_cell? _ _ r5); have gZ : w.heap.size + 1 + 1 < w4.heap.size := (World.block_lt_of_cell? _ _ r7); have gA : w3.heap.size < w4.heap.size := (World.block_lt_of_cell? _ _ r9))) | (go_at_call 22; ((with_reducible refine (HVa _).out.mono ?_); rintro v w7 ⟨rfl, hb7⟩; have ⟨r0, r1, r2, r3, r4, r5, r6, r7, r8, r9, r10⟩ : w7.cell? ⟨g7, 0, none⟩ = some (.int .i64 m0) ∧ w7.cell? ⟨g7, 1, none⟩ = some (.int .i64 m1) ∧ w7.cell? ⟨g7, 2, none⟩ = some (.int .i64 m2) ∧ w7.cell? ⟨g7, 3, none⟩ = some (.int .i64 m3) ∧ w7.cell? ⟨g7, 4, none⟩ = some (.int .i64 m4) ∧ w7.cell? ⟨g8, 0, none⟩ = some (.slice a1 N c) ∧ w7.cell? ⟨g8, 1, none⟩ = some (.slice b1 M e) ∧ w7.cell? ⟨w.heap.size + 1 + 1, 0, none⟩ = some (.int .i64 zn) ∧ w7.cell? ⟨w.heap.size + 1 + 1, 1, none⟩ = some (.int .i64 zd) ∧ w7.cell? ⟨w3.heap.size, 0, none⟩ = some (.int .i64 zn) ∧ w7.cell? ⟨w3.heap.size, 1, none⟩ = some (.int .i64 zd) := (by and_intros <;> (with_reducible repeat (first | exact r0 | exact r1 | exact r2 | exact r3 | exact r4 | exact r5 | exact r6 | exact r7 | exact r8 | exact r9 | exact r10 | exact r11 | exact r12 | refine kc_drew ?_ | refine kc_drewN _ ?_ | refine kc_below hb7 ?_ | (refine kc_new ?_ ?_; (· first | rfl | simp only [sZ]); (· first | rfl | simp)) | (refine kc_set0 ?_ ?_; (· first | rfl | simp)) | exact ct_of (by assumption) | refine ct_drew ?_ | refine ct_drewN _ ?_ | refine ct_below hb7 ?_ | (refine ct_new ?_ ?_; (· first | rfl | simp only [sZ]); (· first | rfl | simp)) | refine ct_set _ _ ?_ | refine ct_alloc _ ?_ | (refine kc_set ?_ ?_; (focus first | (intro hx; injection hx; omega) | (simp; done))) | refine kc_alloc _ ?_))); have ⟨r11, r12⟩ : w7.frozen? ⟨w3.heap.size, 0, none⟩ = false ∧ w7.frozen? ⟨w3.heap.size, 1, none⟩ = false := (by and_intros <;> (with_reducible repeat (first | exact r0 | exact r1 | exact r2 | exact r3 | exact r4 | exact r5 | exact r6 | exact r7 | exact r8 | exact r9 | exact r10 | exact r11 | exact r12 | refine kf_drew ?_ | refine kf_drewN _ ?_ | (refine kf_new ?_ _; (· first | rfl | simp only [sZ])) | refine kf_set _ _ ?_ | (refine kf_below hb7 ?_ ?_; (focus simp only [sZ]; omega)) | (refine kf_alloc _ ?_ ?_; (focus first | (simp only [sZ]; omega) | (dsimp only; omega)))))); have hB : Below w.heap.size w w7 := (by (with_reducible repeat (first | exact hB | exact bR | refine bA ?_ | refine bD ?_ | refine bN ?_ | (refine bS ?_ ?_; (· dsimp only; omega)) | refine bl_call ?_ hb7))); have hC : Below wc.heap.size wc w7 := (by (with_reducible repeat (first | exact hC | exact bR | refine bA ?_ | refine bD ?_ | refine bN ?_ | (refine bS ?_ ?_; (· dsimp only; omega)) | refine bl_call ?_ hb7))); have gL : g7 < w7.heap.size := (World.block_lt_of_cell? _ _ r0); have gT : g8 < w7.heap.size := (World.block_lt_of_cell? _ _ r5); have gZ : w.heap.size + 1 + 1 < w7.heap.size := (World.block_lt_of_cell? _ _ r7); have gA : w3.heap.size < w7.heap.size := (World.block_lt_of_cell? _ _ r9))) | (go_at_call 23; refine (lives_any _).mono ?_; rintro v w9 ⟨rfl, hb9⟩; have hB : Below w.heap.size w w9 := (by (with_reducible repeat (first | exact hB | exact bR | refine bA ?_ | refine bD ?_ | refine bN ?_ | (refine bS ?_ ?_; (· dsimp only; omega)) | refine bl_call ?_ hb9)))))
    go_ret
    exact ⟨rfl, by (with_reducible repeat (first | exact hB | exact bR | refine bA ?_ | refine bD ?_ | refine bN ?_ | (refine bS ?_ ?_; (· dsimp only; omega))))⟩
set_option maxHeartbeats 8000000 in
set_option maxRecDepth 100000 in
theorem gearBest_none (a b : Option Addr) (n c' m e' N M : Nat) (us vs xs ys : List Int) (l0 l1 l2 l3 l4 m0 m1 m2 m3 m4 zn zd : Int) (w : World)
    (HX : Hid (Rd w (.slice a n c') xs)) (HY : Hid (Rd w (.slice b m e') ys))
    (HNar : ∀ W, Hid (Calls Try.prog 48 #[.agg #[.int .i64 l0, .int .i64 l1, .int .i64 l2, .int .i64 l3, .int .i64 l4], .int .i64 11] W fun v w' => v = .returned (.agg #[.int .i64 m0, .int .i64 m1, .int .i64 m2, .int .i64 m3, .int .i64 m4]) ∧ Below W.heap.size W w'))
    (HF2 : ∀ W, Rd W (.slice a n c') xs → Rd W (.slice b m e') ys → Hid (Calls Try.prog 32 #[.agg #[.slice a n c', .slice b m e']] W fun v w' => ∃ a' c'' b' e'', v = .returned (.agg #[.slice a' N c'', .slice b' M e'']) ∧ Hid (RdF W.heap.size w' (.slice a' N c'') us) ∧ Hid (RdF W.heap.size w' (.slice b' M e'') vs) ∧ Below W.heap.size W w'))
    (tn td : Int) (t1 : 1 ≤ tn) (ho : okF tn td) (HE : ∀ W, Hid (Calls Try.prog 49 #[.agg #[.int .i64 tn, .int .i64 td], .agg #[.int .i64 m0, .int .i64 m1, .int .i64 m2, .int .i64 m3, .int .i64 m4]] W fun v w' => v = .returned (.tuple #[.agg #[.slice none 0 0, .slice none 0 0], .int .i64 6]) ∧ Below W.heap.size W w'))
    (hN : N ≤ 8) (hM : M ≤ 8) (hl : vlF m0 m1 m2 m3 m4 = true) (hV : false = true ↔ FitP us vs m0 m1 m2 m3 m4) : Calls Try.prog 14 #[.agg #[.slice a n c', .slice b m e'], .agg #[.int .i64 l0, .int .i64 l1, .int .i64 l2, .int .i64 l3, .int .i64 l4], .agg #[.int .i64 tn, .int .i64 td]] w fun e w' => e = .returned (.bool true) ∧ Below w.heap.size w w' := by
  have HLim := fun W => Lib.hid (refLimits_any m0 m1 m2 m3 m4 W)
  simp only [hl] at HLim
  have HFt := fun a c b e W h1 h2 => Lib.hid (refFits_any a b N c M e m0 m1 m2 m3 m4 us vs W h1 h2 (by omega) (by omega) false hV)
  clear hV
  have HVa := fun W => Lib.hid (valid_true tn td W ho)
  have HNo := fun W => Lib.hid (none_any W)
  clear ho hl
  go_enter Try.func14, Try.ntmps14
  go_upto_region 1 with fail
  go_cut [7, 8] (fun s t wx => CutBest w N M us vs m0 m1 m2 m3 m4 tn td s t wx)
  case first =>
    refine wp_region_told [0, 1, 2, 3, 4, 5] [[], [0], [], [1, 2], [], []] (RBest (w.heap.size + 1 + 1 + 1) a b n c' m e' N M us vs l0 l1 l2 l3 l4 m0 m1 m2 m3 m4) (by kernel_rfl) (by kernel_rfl) (by kernel_rfl) (by decide) (by decide) (by kernel_rfl) ?_ ?_ ?_
    · intro i hi v lo hi' W W' h hb
      simp only [List.mem_cons, List.not_mem_nil, or_false] at hi
      rcases hi with rfl | rfl | rfl | rfl | rfl | rfl
      · exact h
      · exact h
      · exact h
      · (obtain ⟨a1, c, b1, e, h1, h2, h3, h4⟩ := h; exact ⟨a1, c, b1, e, h1, h2.out.below hb, h3.out.below hb, h4⟩)
      · (obtain ⟨g, h1, h2, h3, h4⟩ := h; exact ⟨g, h1, h2, h3, fun i hi => kc_below hb (h4.out.1 i hi), fun i hi => kf_below hb (World.block_lt_of_cell? _ _ (h4.out.1 i hi)) (h4.out.2 i hi)⟩)
      · (obtain ⟨g, h1, h2, h3, h4⟩ := h; exact ⟨g, h1, h2, h3, fun i hi => kc_below hb (h4.out.1 i hi), fun i hi => kf_below hb (World.block_lt_of_cell? _ _ (h4.out.1 i hi)) (h4.out.2 i hi)⟩)
    · intro j hj o tl ho W val lo hi hb hv
      simp only [List.mem_cons, List.not_mem_nil, or_false] at hj
      rcases hj with rfl | rfl | rfl | rfl | rfl | rfl
      · injection ho with h1 h2
        subst h1
        clear h2
        refine givesR_of (by rfl) (fun K hK => ?_) (by simp)
        simp only [putAll, dstOf, List.getD_cons_zero, List.getD_cons_succ, List.getElem?_toArray, List.getElem?_cons_zero, List.getElem?_cons_succ, Option.bind_some, Act.put, List.setIfInBounds_toArray, List.set_cons_zero, List.set_cons_succ] at hK ⊢
        (have ⟨x0, x1, x2, x3, x4⟩ : W.cell? ⟨w.heap.size + 1, 0, none⟩ = some (.int .i64 l0) ∧ W.cell? ⟨w.heap.size + 1, 1, none⟩ = some (.int .i64 l1) ∧ W.cell? ⟨w.heap.size + 1, 2, none⟩ = some (.int .i64 l2) ∧ W.cell? ⟨w.heap.size + 1, 3, none⟩ = some (.int .i64 l3) ∧ W.cell? ⟨w.heap.size + 1, 4, none⟩ = some (.int .i64 l4) := (by and_intros <;> (with_reducible repeat (first | refine kc_drew ?_ | refine kc_drewN _ ?_ | refine kc_below hb ?_ | (refine kc_new ?_ ?_; (· first | rfl | simp only [sZ]); (· first | rfl | simp)) | (refine kc_set0 ?_ ?_; (· first | rfl | simp)) | exact ct_of (by assumption) | refine ct_drew ?_ | refine ct_drewN _ ?_ | refine ct_below hb ?_ | (refine ct_new ?_ ?_; (· first | rfl | simp only [sZ]); (· first | rfl | simp)) | refine ct_set _ _ ?_ | refine ct_alloc _ ?_ | (refine kc_set ?_ ?_; (focus first | (intro hx; injection hx; omega) | (simp; done))) | refine kc_alloc _ ?_))); go_simp; refine hK.out _ _ (Below.refl _ _) ?_; exact rfl)
      · injection ho with h1 h2
        subst h1
        clear h2
        have e0 : val 0 = .agg #[.int .i64 l0, .int .i64 l1, .int .i64 l2, .int .i64 l3, .int .i64 l4] := hv 0 (by simp)
        refine givesR_of (by rfl) (fun K hK => ?_) (by simp)
        simp only [putAll, dstOf, List.getD_cons_zero, List.getD_cons_succ, List.getElem?_toArray, List.getElem?_cons_zero, List.getElem?_cons_succ, Option.bind_some, Act.put, List.setIfInBounds_toArray, List.set_cons_zero, List.set_cons_succ, e0] at hK ⊢
        (go_simp; go_at_call 48; ((with_reducible refine (HNar _).out.mono ?_); rintro v w2 ⟨rfl, hb2⟩; dsimp only; refine hK.out _ _ hb2 ?_; exact rfl))
      · injection ho with h1 h2
        subst h1
        clear h2
        refine givesR_of (by rfl) (fun K hK => ?_) (by simp)
        simp only [putAll, dstOf, List.getD_cons_zero, List.getD_cons_succ, List.getElem?_toArray, List.getElem?_cons_zero, List.getElem?_cons_succ, Option.bind_some, Act.put, List.setIfInBounds_toArray, List.set_cons_zero, List.set_cons_succ] at hK ⊢
        (have ⟨x0, x1⟩ : W.cell? ⟨w.heap.size, 0, none⟩ = some (.slice a n c') ∧ W.cell? ⟨w.heap.size, 1, none⟩ = some (.slice b m e') := (by and_intros <;> (with_reducible repeat (first | refine kc_drew ?_ | refine kc_drewN _ ?_ | refine kc_below hb ?_ | (refine kc_new ?_ ?_; (· first | rfl | simp only [sZ]); (· first | rfl | simp)) | (refine kc_set0 ?_ ?_; (· first | rfl | simp)) | exact ct_of (by assumption) | refine ct_drew ?_ | refine ct_drewN _ ?_ | refine ct_below hb ?_ | (refine ct_new ?_ ?_; (· first | rfl | simp only [sZ]); (· first | rfl | simp)) | refine ct_set _ _ ?_ | refine ct_alloc _ ?_ | (refine kc_set ?_ ?_; (focus first | (intro hx; injection hx; omega) | (simp; done))) | refine kc_alloc _ ?_))); go_simp; refine hK.out _ _ (Below.refl _ _) ?_; exact rfl)
      · injection ho with h1 h2
        subst h1
        clear h2
        have e1 : val 1 = .agg #[.int .i64 m0, .int .i64 m1, .int .i64 m2, .int .i64 m3, .int .i64 m4] := hv 1 (by simp)
        have e2 : val 2 = .agg #[.slice a n c', .slice b m e'] := hv 2 (by simp)
        refine givesR_of (by rfl) (fun K hK => ?_) (by simp)
        simp only [putAll, dstOf, List.getD_cons_zero, List.getD_cons_succ, List.getElem?_toArray, List.getElem?_cons_zero, List.getElem?_cons_succ, Option.bind_some, Act.put, List.setIfInBounds_toArray, List.set_cons_zero, List.set_cons_succ, e1, e2] at hK ⊢
        (go_simp; go_at_call 32; ((with_reducible refine (HF2 _ (HX.out.below (by (with_reducible repeat (first | exact bR | refine bA ?_ | refine bD ?_ | refine bN ?_ | (refine bS ?_ ?_; (· dsimp only; omega)) | refine bl_call ?_ hb)))) (HY.out.below (by (with_reducible repeat (first | exact bR | refine bA ?_ | refine bD ?_ | refine bN ?_ | (refine bS ?_ ?_; (· dsimp only; omega)) | refine bl_call ?_ hb))))).out.mono ?_); rintro v w2 ⟨a1, c, b1, e, rfl, hu1, hv1, hb2⟩; dsimp only; refine hK.out _ _ hb2 ?_; exact ⟨a1, c, b1, e, rfl, hu1, hv1, ⟨fun g o hg hN => rdF_lt hu1.out hg hN, fun g o hg hN => rdF_lt hv1.out hg hN⟩⟩))
      · injection ho with h1 h2
        subst h1
        clear h2
        refine givesR_of (by rfl) (fun K hK => ?_) (by simp)
        simp only [putAll, dstOf, List.getD_cons_zero, List.getD_cons_succ, List.getElem?_toArray, List.getElem?_cons_zero, List.getElem?_cons_succ, Option.bind_some, Act.put, List.setIfInBounds_toArray, List.set_cons_zero, List.set_cons_succ] at hK ⊢
        (go_simp; refine hK.out _ _ (by (with_reducible repeat (first | exact bR | refine bA ?_ | refine bD ?_ | refine bN ?_ | (refine bS ?_ ?_; (· dsimp only; omega))))) ?_; exact ⟨_, rfl, ⟨by have := hb.size; (simp only [World.size_alloc] at this); omega, Nat.le_refl _⟩, by simp, fun i hi => (by rcases (show i = 0 ∨ i = 1 ∨ i = 2 ∨ i = 3 ∨ i = 4 by omega) with rfl | rfl | rfl | rfl | rfl <;> exact kc_new rfl rfl), fun i hi => kf_new rfl _⟩)
      · injection ho with h1 h2
        subst h1
        clear h2
        refine givesR_of (by rfl) (fun K hK => ?_) (by simp)
        simp only [putAll, dstOf, List.getD_cons_zero, List.getD_cons_succ, List.getElem?_toArray, List.getElem?_cons_zero, List.getElem?_cons_succ, Option.bind_some, Act.put, List.setIfInBounds_toArray, List.set_cons_zero, List.set_cons_succ] at hK ⊢
        (go_simp; refine hK.out _ _ (by (with_reducible repeat (first | exact bR | refine bA ?_ | refine bD ?_ | refine bN ?_ | (refine bS ?_ ?_; (· dsimp only; omega))))) ?_; exact ⟨_, rfl, ⟨by have := hb.size; (simp only [World.size_alloc] at this); omega, Nat.le_refl _⟩, by simp, fun i hi => (by rcases (show i = 0 ∨ i = 1 by omega) with rfl | rfl <;> exact kc_new rfl rfl), fun i hi => kf_new rfl _⟩)
    · intro W val lo hi hb hv hd
      have e0 : val 0 = .agg #[.int .i64 l0, .int .i64 l1, .int .i64 l2, .int .i64 l3, .int .i64 l4] := hv 0 (by simp)
      have e1 : val 1 = .agg #[.int .i64 m0, .int .i64 m1, .int .i64 m2, .int .i64 m3, .int .i64 m4] := hv 1 (by simp)
      have e2 : val 2 = .agg #[.slice a n c', .slice b m e'] := hv 2 (by simp)
      obtain ⟨a1, c, b1, e, e3, hu, hw, ho⟩ := hv 3 (by simp)
      obtain ⟨g7, e4, h7, h7', H7⟩ := hv 4 (by simp)
      obtain ⟨g8, e5, h8, h8', H8⟩ := hv 5 (by simp)
      have d34 := hd 3 (by simp) 4 (by simp) (by decide)
      have d35 := hd 3 (by simp) 5 (by simp) (by decide)
      have d45 := hd 4 (by simp) 5 (by simp) (by decide)
      have n78 : g7 ≠ g8 := by omega
      have n87 : g8 ≠ g7 := by omega
      have NU : Hid ((∀ g o, a1 = some ⟨g, o, none⟩ → 1 ≤ N → g ≠ g7 ∧ g ≠ g8) ∧ ∀ g o, b1 = some ⟨g, o, none⟩ → 1 ≤ M → g ≠ g7 ∧ g ≠ g8) := ⟨fun g o hg hN => (by have a := ho.out.1 g o hg hN; have b := rdF_le hu.out hg hN; have c := h7.2; have d := h8.2; omega), fun g o hg hN => (by have a := ho.out.2 g o hg hN; have b := rdF_le hw.out hg hN; have c := h7.2; have d := h8.2; omega)⟩
      have HU1 := Lib.hid hu.out.rd
      have HW1 := Lib.hid hw.out.rd
      have y0 := H7.out.1 0 (by omega)
      have y1 := H7.out.1 1 (by omega)
      have y2 := H7.out.1 2 (by omega)
      have y3 := H7.out.1 3 (by omega)
      have y4 := H7.out.1 4 (by omega)
      have y5 := H8.out.1 0 (by omega)
      have y6 := H8.out.1 1 (by omega)
      have f0 := H7.out.2 0 (by omega)
      have f1 := H7.out.2 1 (by omega)
      have f2 := H7.out.2 2 (by omega)
      have f3 := H7.out.2 3 (by omega)
      have f4 := H7.out.2 4 (by omega)
      have f5 := H8.out.2 0 (by omega)
      have f6 := H8.out.2 1 (by omega)
      have gz7 := World.block_lt_of_cell? _ _ y0
      have gz8 := World.block_lt_of_cell? _ _ y5
      simp only at gz7 gz8
      have ⟨x0, x1⟩ : W.cell? ⟨w.heap.size + 1 + 1, 0, none⟩ = some (.int .i64 tn) ∧ W.cell? ⟨w.heap.size + 1 + 1, 1, none⟩ = some (.int .i64 td) := (by and_intros <;> (with_reducible repeat (first | refine kc_drew ?_ | refine kc_drewN _ ?_ | refine kc_below hb ?_ | (refine kc_new ?_ ?_; (· first | rfl | simp only [sZ]); (· first | rfl | simp)) | (refine kc_set0 ?_ ?_; (· first | rfl | simp)) | exact ct_of (by assumption) | refine ct_drew ?_ | refine ct_drewN _ ?_ | refine ct_below hb ?_ | (refine ct_new ?_ ?_; (· first | rfl | simp only [sZ]); (· first | rfl | simp)) | refine ct_set _ _ ?_ | refine ct_alloc _ ?_ | (refine kc_set ?_ ?_; (focus first | (intro hx; injection hx; omega) | (simp; done))) | refine kc_alloc _ ?_)))
      have hBW : Below w.heap.size w W := (by (with_reducible repeat (first | exact bR | refine bA ?_ | refine bD ?_ | refine bN ?_ | (refine bS ?_ ?_; (· dsimp only; omega)) | refine bl_call ?_ hb)))
      obtain ⟨gb7, _⟩ := h7
      obtain ⟨gb8, _⟩ := h8
      clear hv hd hu hw ho H7 H8
      simp only [putAll, dstOf, List.getD_cons_zero, List.getD_cons_succ, List.getElem?_toArray, List.getElem?_cons_zero, List.getElem?_cons_succ, Option.bind_some, Act.put, List.setIfInBounds_toArray, List.set_cons_zero, List.set_cons_succ, e0, e1, e2, e3, e4, e5]
      refine wpAnyH_ready (rs := [6]) (by kernel_rfl) (by simp) ?_
      refine consH 6 rfl (fun K hK => ?_) ?_
      · go_simp
        refine hK.out _ _ ?_ (fun hHeld => ?_)
        · trivial
        clear hK K
        (try simp only [Act.put, List.setIfInBounds_toArray, List.set_cons_zero, List.set_cons_succ])
        refine wpAnyH_ready (rs := [7]) (by kernel_rfl) (by simp) ?_
        refine consH 7 rfl (fun K hK => ?_) ?_
        · go_simp
          refine hK.out _ _ ?_ (fun hHeld => ?_)
          · trivial
          clear hK K
          (try simp only [Act.put, List.setIfInBounds_toArray, List.set_cons_zero, List.set_cons_succ])
          refine wpAnyH_done (by kernel_rfl) ?_ _
          skip
          go_wp2_with fail
          go_meet
          refine ⟨g7, g8, a1, c, b1, e, rfl, rfl, ⟨?_, ?_, ?_, ?_, ?_, ?_, ?_, ?_, ?_, ?_⟩, ?_, ?_⟩
          all_goals first | ((with_reducible repeat (first | exact x0 | exact x1 | exact y0 | exact y1 | exact y2 | exact y3 | exact y4 | exact y5 | exact y6 | refine kc_drew ?_ | refine kc_drewN _ ?_ | (refine kc_new ?_ ?_; (· first | rfl | simp only [sZ]); (· first | rfl | simp)) | (refine kc_set0 ?_ ?_; (· first | rfl | simp)) | exact ct_of (by assumption) | refine ct_drew ?_ | refine ct_drewN _ ?_ | (refine ct_new ?_ ?_; (· first | rfl | simp only [sZ]); (· first | rfl | simp)) | refine ct_set _ _ ?_ | refine ct_alloc _ ?_ | (refine kc_set ?_ ?_; (focus first | (intro hx; injection hx; omega) | (simp; done))) | refine kc_alloc _ ?_)); done) | ((with_reducible repeat (first | exact hBW | exact bR | refine bA ?_ | refine bD ?_ | refine bN ?_ | (refine bS ?_ ?_; (· dsimp only; omega)))); done) | (refine Lib.hid ?_; repeat (first | with_reducible exact HU1.out | with_reducible exact HW1.out | with_reducible refine rd_set (fun g o hg hN => (NU.out.1 g o hg hN).1) ?_ | with_reducible refine rd_set (fun g o hg hN => (NU.out.1 g o hg hN).2) ?_ | with_reducible refine rd_set (fun g o hg hN => (NU.out.2 g o hg hN).1) ?_ | with_reducible refine rd_set (fun g o hg hN => (NU.out.2 g o hg hN).2) ?_))
        exact AllReadyH.nil
      exact AllReadyH.nil
  case rest =>
    obtain ⟨g7, g8, a1, c, b1, e, rfl, rfl, HB, HU0, HW0⟩ := hcut
    obtain ⟨r0, r1, r2, r3, r4, r5, r6, r7, r8, hB⟩ := HB.out
    have HU : Hid (∀ W, Below wc.heap.size wc W → Rd W (.slice a1 N c) us) := fun W hW => HU0.out.below hW
    have HW : Hid (∀ W, Below wc.heap.size wc W → Rd W (.slice b1 M e) vs) := fun W hW => HW0.out.below hW
    have hC : Below wc.heap.size wc wc := Below.refl _ _
    have gL : g7 < wc.heap.size := World.block_lt_of_cell? _ _ r0
    have gT : g8 < wc.heap.size := World.block_lt_of_cell? _ _ r5
    have gZ : w.heap.size + 1 + 1 < wc.heap.size := World.block_lt_of_cell? _ _ r7
    clear HU0 HW0 HB HX HY HNar HF2
    go_wp2_with (first | (go_at_call 38; ((with_reducible refine (HLim _).out.mono ?_); rintro v w3 ⟨rfl, hk3⟩; have hb3 := hk3.below; have ⟨r0, r1, r2, r3, r4, r5, r6, r7, r8⟩ : w3.cell? ⟨g7, 0, none⟩ = some (.int .i64 m0) ∧ w3.cell? ⟨g7, 1, none⟩ = some (.int .i64 m1) ∧ w3.cell? ⟨g7, 2, none⟩ = some (.int .i64 m2) ∧ w3.cell? ⟨g7, 3, none⟩ = some (.int .i64 m3) ∧ w3.cell? ⟨g7, 4, none⟩ = some (.int .i64 m4) ∧ w3.cell? ⟨g8, 0, none⟩ = some (.slice a1 N c) ∧ w3.cell? ⟨g8, 1, none⟩ = some (.slice b1 M e) ∧ w3.cell? ⟨w.heap.size + 1 + 1, 0, none⟩ = some (.int .i64 tn) ∧ w3.cell? ⟨w.heap.size + 1 + 1, 1, none⟩ = some (.int .i64 td) := (by and_intros <;> (with_reducible repeat (first | exact r0 | exact r1 | exact r2 | exact r3 | exact r4 | exact r5 | exact r6 | exact r7 | exact r8 | refine kc_drew ?_ | refine kc_drewN _ ?_ | refine kc_below hb3 ?_ | (refine kc_new ?_ ?_; (· first | rfl | simp only [sZ]); (· first | rfl | simp)) | (refine kc_set0 ?_ ?_; (· first | rfl | simp)) | exact ct_of (by assumption) | refine ct_drew ?_ | refine ct_drewN _ ?_ | refine ct_below hb3 ?_ | (refine ct_new ?_ ?_; (· first | rfl | simp only [sZ]); (· first | rfl | simp)) | refine ct_set _ _ ?_ | refine ct_alloc _ ?_ | (refine kc_set ?_ ?_; (focus first | (intro hx; injection hx; omega) | (simp; done))) | refine kc_alloc _ ?_))); have hB : Below w.heap.size w w3 := (by (with_reducible repeat (first | exact hB | exact bR | refine bA ?_ | refine bD ?_ | refine bN ?_ | (refine bS ?_ ?_; (· dsimp only; omega)) | refine bl_call ?_ hb3))); have hC : Below wc.heap.size wc w3 := (by (with_reducible repeat (first | exact hC | exact bR | refine bA ?_ | refine bD ?_ | refine bN ?_ | (refine bS ?_ ?_; (· dsimp only; omega)) | refine bl_call ?_ hb3))); have gL : g7 < w3.heap.size := (World.block_lt_of_cell? _ _ r0); have gT : g8 < w3.heap.size := (World.block_lt_of_cell? _ _ r5); have gZ : w.heap.size + 1 + 1 < w3.heap.size := (World.block_lt_of_cell? _ _ r7))) | (have hgd := hb8; clear hgd; go_at_call 39; ((with_reducible refine (HFt _ _ _ _ _ (HU.out _ (by (with_reducible repeat (first | exact hC | exact bR | refine bA ?_ | refine bD ?_ | refine bN ?_ | (refine bS ?_ ?_; (· dsimp only; omega)))))) (HW.out _ (by (with_reducible repeat (first | exact hC | exact bR | refine bA ?_ | refine bD ?_ | refine bN ?_ | (refine bS ?_ ?_; (· dsimp only; omega))))))).out.mono ?_); rintro v w15 ⟨rfl, hb15⟩; have ⟨r0, r1, r2, r3, r4, r5, r6, r7, r8, r9, r10⟩ : w15.cell? ⟨g7, 0, none⟩ = some (.int .i64 m0) ∧ w15.cell? ⟨g7, 1, none⟩ = some (.int .i64 m1) ∧ w15.cell? ⟨g7, 2, none⟩ = some (.int .i64 m2) ∧ w15.cell? ⟨g7, 3, none⟩ = some (.int .i64 m3) ∧ w15.cell? ⟨g7, 4, none⟩ = some (.int .i64 m4) ∧ w15.cell? ⟨g8, 0, none⟩ = some (.slice a1 N c) ∧ w15.cell? ⟨g8, 1, none⟩ = some (.slice b1 M e) ∧ w15.cell? ⟨w.heap.size + 1 + 1, 0, none⟩ = some (.int .i64 tn) ∧ w15.cell? ⟨w.heap.size + 1 + 1, 1, none⟩ = some (.int .i64 td) ∧ w15.cell? ⟨w3.heap.size, 0, none⟩ = some (.int .i64 tn) ∧ w15.cell? ⟨w3.heap.size, 1, none⟩ = some (.int .i64 td) := (by and_intros <;> (with_reducible repeat (first | exact r0 | exact r1 | exact r2 | exact r3 | exact r4 | exact r5 | exact r6 | exact r7 | exact r8 | exact r9 | exact r10 | exact r11 | exact r12 | refine kc_drew ?_ | refine kc_drewN _ ?_ | refine kc_below hb15 ?_ | (refine kc_new ?_ ?_; (· first | rfl | simp only [sZ]); (· first | rfl | simp)) | (refine kc_set0 ?_ ?_; (· first | rfl | simp)) | exact ct_of (by assumption) | refine ct_drew ?_ | refine ct_drewN _ ?_ | refine ct_below hb15 ?_ | (refine ct_new ?_ ?_; (· first | rfl | simp only [sZ]); (· first | rfl | simp)) | refine ct_set _ _ ?_ | refine ct_alloc _ ?_ | (refine kc_set ?_ ?_; (focus first | (intro hx; injection hx; omega) | (simp; done))) | refine kc_alloc _ ?_))); have ⟨r11, r12⟩ : w15.frozen? ⟨w3.heap.size, 0, none⟩ = false ∧ w15.frozen? ⟨w3.heap.size, 1, none⟩ = false := (by and_intros <;> (with_reducible repeat (first | exact r0 | exact r1 | exact r2 | exact r3 | exact r4 | exact r5 | exact r6 | exact r7 | exact r8 | exact r9 | exact r10 | exact r11 | exact r12 | refine kf_drew ?_ | refine kf_drewN _ ?_ | (refine kf_new ?_ _; (· first | rfl | simp only [sZ])) | refine kf_set _ _ ?_ | (refine kf_below hb15 ?_ ?_; (focus simp only [sZ]; omega)) | (refine kf_alloc _ ?_ ?_; (focus first | (simp only [sZ]; omega) | (dsimp only; omega)))))); have hB : Below w.heap.size w w15 := (by (with_reducible repeat (first | exact hB | exact bR | refine bA ?_ | refine bD ?_ | refine bN ?_ | (refine bS ?_ ?_; (· dsimp only; omega)) | refine bl_call ?_ hb15))); have hC : Below wc.heap.size wc w15 := (by (with_reducible repeat (first | exact hC | exact bR | refine bA ?_ | refine bD ?_ | refine bN ?_ | (refine bS ?_ ?_; (· dsimp only; omega)) | refine bl_call ?_ hb15))); have gL : g7 < w15.heap.size := (World.block_lt_of_cell? _ _ r0); have gT : g8 < w15.heap.size := (World.block_lt_of_cell? _ _ r5); have gZ : w.heap.size + 1 + 1 < w15.heap.size := (World.block_lt_of_cell? _ _ r7); have gA : w3.heap.size < w15.heap.size := (World.block_lt_of_cell? _ _ r9))) | (go_at_call 39; ((with_reducible refine (HFt _ _ _ _ _ (HU.out _ (by (with_reducible repeat (first | exact hC | exact bR | refine bA ?_ | refine bD ?_ | refine bN ?_ | (refine bS ?_ ?_; (· dsimp only; omega)))))) (HW.out _ (by (with_reducible repeat (first | exact hC | exact bR | refine bA ?_ | refine bD ?_ | refine bN ?_ | (refine bS ?_ ?_; (· dsimp only; omega))))))).out.mono ?_); rintro v w4 ⟨rfl, hb4⟩; have ⟨r0, r1, r2, r3, r4, r5, r6, r7, r8, r9, r10⟩ : w4.cell? ⟨g7, 0, none⟩ = some (.int .i64 m0) ∧ w4.cell? ⟨g7, 1, none⟩ = some (.int .i64 m1) ∧ w4.cell? ⟨g7, 2, none⟩ = some (.int .i64 m2) ∧ w4.cell? ⟨g7, 3, none⟩ = some (.int .i64 m3) ∧ w4.cell? ⟨g7, 4, none⟩ = some (.int .i64 m4) ∧ w4.cell? ⟨g8, 0, none⟩ = some (.slice a1 N c) ∧ w4.cell? ⟨g8, 1, none⟩ = some (.slice b1 M e) ∧ w4.cell? ⟨w.heap.size + 1 + 1, 0, none⟩ = some (.int .i64 tn) ∧ w4.cell? ⟨w.heap.size + 1 + 1, 1, none⟩ = some (.int .i64 td) ∧ w4.cell? ⟨w3.heap.size, 0, none⟩ = some (.int .i64 tn) ∧ w4.cell? ⟨w3.heap.size, 1, none⟩ = some (.int .i64 td) := (by and_intros <;> (with_reducible repeat (first | exact r0 | exact r1 | exact r2 | exact r3 | exact r4 | exact r5 | exact r6 | exact r7 | exact r8 | exact r9 | exact r10 | exact r11 | exact r12 | refine kc_drew ?_ | refine kc_drewN _ ?_ | refine kc_below hb4 ?_ | (refine kc_new ?_ ?_; (· first | rfl | simp only [sZ]); (· first | rfl | simp)) | (refine kc_set0 ?_ ?_; (· first | rfl | simp)) | exact ct_of (by assumption) | refine ct_drew ?_ | refine ct_drewN _ ?_ | refine ct_below hb4 ?_ | (refine ct_new ?_ ?_; (· first | rfl | simp only [sZ]); (· first | rfl | simp)) | refine ct_set _ _ ?_ | refine ct_alloc _ ?_ | (refine kc_set ?_ ?_; (focus first | (intro hx; injection hx; omega) | (simp; done))) | refine kc_alloc _ ?_))); have ⟨r11, r12⟩ : w4.frozen? ⟨w3.heap.size, 0, none⟩ = false ∧ w4.frozen? ⟨w3.heap.size, 1, none⟩ = false := (by and_intros <;> (with_reducible repeat (first | exact r0 | exact r1 | exact r2 | exact r3 | exact r4 | exact r5 | exact r6 | exact r7 | exact r8 | exact r9 | exact r10 | exact r11 | exact r12 | refine kf_drew ?_ | refine kf_drewN _ ?_ | (refine kf_new ?_ _; (· first | rfl | simp only [sZ])) | refine kf_set _ _ ?_ | (refine kf_below hb4 ?_ ?_; (focus simp only [sZ]; omega)) | (refine kf_alloc _ ?_ ?_; (focus first | (simp only [sZ]; omega) | (dsimp only; omega)))))); have hB : Below w.heap.size w w4 := (by (with_reducible repeat (first | exact hB | exact bR | refine bA ?_ | refine bD ?_ | refine bN ?_ | (refine bS ?_ ?_; (· dsimp only; omega)) | refine bl_call ?_ hb4))); have hC : Below wc.heap.size wc w4 := (by (with_reducible repeat (first | exact hC | exact bR | refine bA ?_ | refine bD ?_ | refine bN ?_ | (refine bS ?_ ?_; (· dsimp only; omega)) | refine bl_call ?_ hb4))); have gL : g7 < w4.heap.size := (World.block_lt_of_cell? _ _ r0); have gT : g8 < w4.heap.size := (World.block_lt_of_cell? _ _ r5); have gZ : w.heap.size + 1 + 1 < w4.heap.size := (World.block_lt_of_cell? _ _ r7); have gA : w3.heap.size < w4.heap.size := (World.block_lt_of_cell? _ _ r9))) | (go_at_call 22; ((with_reducible refine (HVa _).out.mono ?_); rintro v w7 ⟨rfl, hb7⟩; have ⟨r0, r1, r2, r3, r4, r5, r6, r7, r8, r9, r10⟩ : w7.cell? ⟨g7, 0, none⟩ = some (.int .i64 m0) ∧ w7.cell? ⟨g7, 1, none⟩ = some (.int .i64 m1) ∧ w7.cell? ⟨g7, 2, none⟩ = some (.int .i64 m2) ∧ w7.cell? ⟨g7, 3, none⟩ = some (.int .i64 m3) ∧ w7.cell? ⟨g7, 4, none⟩ = some (.int .i64 m4) ∧ w7.cell? ⟨g8, 0, none⟩ = some (.slice a1 N c) ∧ w7.cell? ⟨g8, 1, none⟩ = some (.slice b1 M e) ∧ w7.cell? ⟨w.heap.size + 1 + 1, 0, none⟩ = some (.int .i64 tn) ∧ w7.cell? ⟨w.heap.size + 1 + 1, 1, none⟩ = some (.int .i64 td) ∧ w7.cell? ⟨w3.heap.size, 0, none⟩ = some (.int .i64 tn) ∧ w7.cell? ⟨w3.heap.size, 1, none⟩ = some (.int .i64 td) := (by and_intros <;> (with_reducible repeat (first | exact r0 | exact r1 | exact r2 | exact r3 | exact r4 | exact r5 | exact r6 | exact r7 | exact r8 | exact r9 | exact r10 | exact r11 | exact r12 | refine kc_drew ?_ | refine kc_drewN _ ?_ | refine kc_below hb7 ?_ | (refine kc_new ?_ ?_; (· first | rfl | simp only [sZ]); (· first | rfl | simp)) | (refine kc_set0 ?_ ?_; (· first | rfl | simp)) | exact ct_of (by assumption) | refine ct_drew ?_ | refine ct_drewN _ ?_ | refine ct_below hb7 ?_ | (refine ct_new ?_ ?_; (· first | rfl | simp only [sZ]); (· first | rfl | simp)) | refine ct_set _ _ ?_ | refine ct_alloc _ ?_ | (refine kc_set ?_ ?_; (focus first | (intro hx; injection hx; omega) | (simp; done))) | refine kc_alloc _ ?_))); have ⟨r11, r12⟩ : w7.frozen? ⟨w3.heap.size, 0, none⟩ = false ∧ w7.frozen? ⟨w3.heap.size, 1, none⟩ = false := (by and_intros <;> (with_reducible repeat (first | exact r0 | exact r1 | exact r2 | exact r3 | exact r4 | exact r5 | exact r6 | exact r7 | exact r8 | exact r9 | exact r10 | exact r11 | exact r12 | refine kf_drew ?_ | refine kf_drewN _ ?_ | (refine kf_new ?_ _; (· first | rfl | simp only [sZ])) | refine kf_set _ _ ?_ | (refine kf_below hb7 ?_ ?_; (focus simp only [sZ]; omega)) | (refine kf_alloc _ ?_ ?_; (focus first | (simp only [sZ]; omega) | (dsimp only; omega)))))); have hB : Below w.heap.size w w7 := (by (with_reducible repeat (first | exact hB | exact bR | refine bA ?_ | refine bD ?_ | refine bN ?_ | (refine bS ?_ ?_; (· dsimp only; omega)) | refine bl_call ?_ hb7))); have hC : Below wc.heap.size wc w7 := (by (with_reducible repeat (first | exact hC | exact bR | refine bA ?_ | refine bD ?_ | refine bN ?_ | (refine bS ?_ ?_; (· dsimp only; omega)) | refine bl_call ?_ hb7))); have gL : g7 < w7.heap.size := (World.block_lt_of_cell? _ _ r0); have gT : g8 < w7.heap.size := (World.block_lt_of_cell? _ _ r5); have gZ : w.heap.size + 1 + 1 < w7.heap.size := (World.block_lt_of_cell? _ _ r7); have gA : w3.heap.size < w7.heap.size := (World.block_lt_of_cell? _ _ r9))) | (go_at_call 49; ((with_reducible refine (HE _).out.mono ?_); rintro v w8 ⟨rfl, hb8⟩; have ⟨r0, r1, r2, r3, r4, r5, r6, r7, r8, r9, r10⟩ : w8.cell? ⟨g7, 0, none⟩ = some (.int .i64 m0) ∧ w8.cell? ⟨g7, 1, none⟩ = some (.int .i64 m1) ∧ w8.cell? ⟨g7, 2, none⟩ = some (.int .i64 m2) ∧ w8.cell? ⟨g7, 3, none⟩ = some (.int .i64 m3) ∧ w8.cell? ⟨g7, 4, none⟩ = some (.int .i64 m4) ∧ w8.cell? ⟨g8, 0, none⟩ = some (.slice a1 N c) ∧ w8.cell? ⟨g8, 1, none⟩ = some (.slice b1 M e) ∧ w8.cell? ⟨w.heap.size + 1 + 1, 0, none⟩ = some (.int .i64 tn) ∧ w8.cell? ⟨w.heap.size + 1 + 1, 1, none⟩ = some (.int .i64 td) ∧ w8.cell? ⟨w3.heap.size, 0, none⟩ = some (.int .i64 tn) ∧ w8.cell? ⟨w3.heap.size, 1, none⟩ = some (.int .i64 td) := (by and_intros <;> (with_reducible repeat (first | exact r0 | exact r1 | exact r2 | exact r3 | exact r4 | exact r5 | exact r6 | exact r7 | exact r8 | exact r9 | exact r10 | exact r11 | exact r12 | refine kc_drew ?_ | refine kc_drewN _ ?_ | refine kc_below hb8 ?_ | (refine kc_new ?_ ?_; (· first | rfl | simp only [sZ]); (· first | rfl | simp)) | (refine kc_set0 ?_ ?_; (· first | rfl | simp)) | exact ct_of (by assumption) | refine ct_drew ?_ | refine ct_drewN _ ?_ | refine ct_below hb8 ?_ | (refine ct_new ?_ ?_; (· first | rfl | simp only [sZ]); (· first | rfl | simp)) | refine ct_set _ _ ?_ | refine ct_alloc _ ?_ | (refine kc_set ?_ ?_; (focus first | (intro hx; injection hx; omega) | (simp; done))) | refine kc_alloc _ ?_))); have ⟨r11, r12⟩ : w8.frozen? ⟨w3.heap.size, 0, none⟩ = false ∧ w8.frozen? ⟨w3.heap.size, 1, none⟩ = false := (by and_intros <;> (with_reducible repeat (first | exact r0 | exact r1 | exact r2 | exact r3 | exact r4 | exact r5 | exact r6 | exact r7 | exact r8 | exact r9 | exact r10 | exact r11 | exact r12 | refine kf_drew ?_ | refine kf_drewN _ ?_ | (refine kf_new ?_ _; (· first | rfl | simp only [sZ])) | refine kf_set _ _ ?_ | (refine kf_below hb8 ?_ ?_; (focus simp only [sZ]; omega)) | (refine kf_alloc _ ?_ ?_; (focus first | (simp only [sZ]; omega) | (dsimp only; omega)))))); have hB : Below w.heap.size w w8 := (by (with_reducible repeat (first | exact hB | exact bR | refine bA ?_ | refine bD ?_ | refine bN ?_ | (refine bS ?_ ?_; (· dsimp only; omega)) | refine bl_call ?_ hb8))); have hC : Below wc.heap.size wc w8 := (by (with_reducible repeat (first | exact hC | exact bR | refine bA ?_ | refine bD ?_ | refine bN ?_ | (refine bS ?_ ?_; (· dsimp only; omega)) | refine bl_call ?_ hb8))); have gL : g7 < w8.heap.size := (World.block_lt_of_cell? _ _ r0); have gT : g8 < w8.heap.size := (World.block_lt_of_cell? _ _ r5); have gZ : w.heap.size + 1 + 1 < w8.heap.size := (World.block_lt_of_cell? _ _ r7); have gA : w3.heap.size < w8.heap.size := (World.block_lt_of_cell? _ _ r9))) | (go_at_call 50; ((with_reducible refine (HNo _).out.mono ?_); rintro v w10 ⟨rfl, hb10⟩; have ⟨r0, r1, r2, r3, r4, r5, r6, r7, r8, r9, r10⟩ : w10.cell? ⟨g7, 0, none⟩ = some (.int .i64 m0) ∧ w10.cell? ⟨g7, 1, none⟩ = some (.int .i64 m1) ∧ w10.cell? ⟨g7, 2, none⟩ = some (.int .i64 m2) ∧ w10.cell? ⟨g7, 3, none⟩ = some (.int .i64 m3) ∧ w10.cell? ⟨g7, 4, none⟩ = some (.int .i64 m4) ∧ w10.cell? ⟨g8, 0, none⟩ = some (.slice a1 N c) ∧ w10.cell? ⟨g8, 1, none⟩ = some (.slice b1 M e) ∧ w10.cell? ⟨w.heap.size + 1 + 1, 0, none⟩ = some (.int .i64 tn) ∧ w10.cell? ⟨w.heap.size + 1 + 1, 1, none⟩ = some (.int .i64 td) ∧ w10.cell? ⟨w3.heap.size, 0, none⟩ = some (.int .i64 tn) ∧ w10.cell? ⟨w3.heap.size, 1, none⟩ = some (.int .i64 td) := (by and_intros <;> (with_reducible repeat (first | exact r0 | exact r1 | exact r2 | exact r3 | exact r4 | exact r5 | exact r6 | exact r7 | exact r8 | exact r9 | exact r10 | exact r11 | exact r12 | refine kc_drew ?_ | refine kc_drewN _ ?_ | refine kc_below hb10 ?_ | (refine kc_new ?_ ?_; (· first | rfl | simp only [sZ]); (· first | rfl | simp)) | (refine kc_set0 ?_ ?_; (· first | rfl | simp)) | exact ct_of (by assumption) | refine ct_drew ?_ | refine ct_drewN _ ?_ | refine ct_below hb10 ?_ | (refine ct_new ?_ ?_; (· first | rfl | simp only [sZ]); (· first | rfl | simp)) | refine ct_set _ _ ?_ | refine ct_alloc _ ?_ | (refine kc_set ?_ ?_; (focus first | (intro hx; injection hx; omega) | (simp; done))) | refine kc_alloc _ ?_))); have ⟨r11, r12⟩ : w10.frozen? ⟨w3.heap.size, 0, none⟩ = false ∧ w10.frozen? ⟨w3.heap.size, 1, none⟩ = false := (by and_intros <;> (with_reducible repeat (first | exact r0 | exact r1 | exact r2 | exact r3 | exact r4 | exact r5 | exact r6 | exact r7 | exact r8 | exact r9 | exact r10 | exact r11 | exact r12 | refine kf_drew ?_ | refine kf_drewN _ ?_ | (refine kf_new ?_ _; (· first | rfl | simp only [sZ])) | refine kf_set _ _ ?_ | (refine kf_below hb10 ?_ ?_; (focus simp only [sZ]; omega)) | (refine kf_alloc _ ?_ ?_; (focus first | (simp only [sZ]; omega) | (dsimp only; omega)))))); have hB : Below w.heap.size w w10 := (by (with_reducible repeat (first | exact hB | exact bR | refine bA ?_ | refine bD ?_ | refine bN ?_ | (refine bS ?_ ?_; (· dsimp only; omega)) | refine bl_call ?_ hb10))); have hC : Below wc.heap.size wc w10 := (by (with_reducible repeat (first | exact hC | exact bR | refine bA ?_ | refine bD ?_ | refine bN ?_ | (refine bS ?_ ?_; (· dsimp only; omega)) | refine bl_call ?_ hb10))); have gL : g7 < w10.heap.size := (World.block_lt_of_cell? _ _ r0); have gT : g8 < w10.heap.size := (World.block_lt_of_cell? _ _ r5); have gZ : w.heap.size + 1 + 1 < w10.heap.size := (World.block_lt_of_cell? _ _ r7); have gA : w3.heap.size < w10.heap.size := (World.block_lt_of_cell? _ _ r9))) | (go_at_call 23; refine (lives_any _).mono ?_; rintro v w9 ⟨rfl, hb9⟩; have hB : Below w.heap.size w w9 := (by (with_reducible repeat (first | exact hB | exact bR | refine bA ?_ | refine bD ?_ | refine bN ?_ | (refine bS ?_ ?_; (· dsimp only; omega)) | refine bl_call ?_ hb9)))))
    go_ret
    exact ⟨rfl, by (with_reducible repeat (first | exact hB | exact bR | refine bA ?_ | refine bD ?_ | refine bN ?_ | (refine bS ?_ ?_; (· dsimp only; omega))))⟩
end Go.Proofs.Ytoenimkgagndnaa
