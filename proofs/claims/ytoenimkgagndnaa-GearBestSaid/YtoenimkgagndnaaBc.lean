/- Texts that gearBest_holds reaches: Side, Row, GenP, Compact, Sides, Search. -/
import Derived.Test.YtoenimkgagndnaaBa
import Derived.Lib.SliceRun
import Derived.Lib.SlBuf
import Derived.StillTailTactics
import Derived.Deep.LoopGhost
import Derived.Deep.DeepCutAuto
import Derived.Deep.CutBlock
import Derived.Deep.DeepMust
import Derived.Maps.AppendAt
import Derived.Test.YtoenimkgagndnaaBb
namespace Go.Proofs.Ytoenimkgagndnaa
set_option linter.unusedVariables false
set_option linter.unusedSimpArgs false
open Go.RowKit Go.Shelf Go.Lib Go.Sort

/-- A side's cells. -/
structure Side where
  a : Int
  b : Int
  c : Int
  p : Int
  s : Int
deriving DecidableEq, Inhabited

def Side.enc (x : Side) : List Value := [.int .i64 x.a, .int .i64 x.b, .int .i64 x.c, .int .i64 x.p, .int .i64 x.s]
def Side.val (x : Side) : Value := .agg #[.int .i64 x.a, .int .i64 x.b, .int .i64 x.c, .int .i64 x.p, .int .i64 x.s]

set_option maxHeartbeats 400000 in
theorem eqSides_any (a b c p s a' b' c' p' s' : Int) (w : World) :
    Calls Try.prog 124 #[.agg #[.int .i64 a, .int .i64 b, .int .i64 c, .int .i64 p, .int .i64 s], .agg #[.int .i64 a', .int .i64 b', .int .i64 c', .int .i64 p', .int .i64 s']] w fun e w' =>
      e = .returned (.bool (p == p')) ∧ ∃ q os', w' = grow (w.drewN q) os' := by
  go_enter Try.func124, Try.ntmps124
  go_wp2
  go_ret
  exact ⟨rfl, 0, _, by rw [alloc_eq_grow, alloc_eq_grow, grow_grow]; rfl⟩

/-- with: one more number of teeth. -/
def Side.with (x : Side) (i : Nat) (k : Int) : Side :=
  { a := if i = 0 then k else x.a, b := if i = 1 then k else x.b, c := if i = 2 then k else x.c, p := x.p * k, s := x.s + k }

set_option maxHeartbeats 400000 in
theorem with_any (x : Side) (i : Nat) (k : Int) (w : World) (hi : i < 3) (hk : 1 ≤ k) (hk' : k ≤ 200) (hp : 0 ≤ x.p) (hp' : x.p ≤ 40000) (hs : 0 ≤ x.s) (hs' : x.s ≤ 400) :
    Calls Try.prog 120 #[.agg #[.int .i64 x.a, .int .i64 x.b, .int .i64 x.c, .int .i64 x.p, .int .i64 x.s], .int .i64 i, .int .i64 k] w fun e w' => e = .returned (x.with i k).val ∧ Below w.heap.size w w' := by
  have hpk : 0 ≤ x.p * k ∧ x.p * k ≤ 8000000 := ⟨Int.mul_nonneg hp (by omega), by have := Int.mul_le_mul hp' hk' (by omega) (by omega : (0:Int) ≤ 40000); omega⟩
  have e0 : IntKind.i64.wrap (x.p * k) = x.p * k := IntWalk.i64_in _ (by omega)
  obtain ⟨a, b, c, p, s⟩ := x
  simp only at *
  rcases (show i = 0 ∨ i = 1 ∨ i = 2 by omega) with rfl | rfl | rfl
  all_goals
    go_enter Try.func120, Try.ntmps120
    go_wp2
  · exact bodyPost_ret (v := .agg #[.int .i64 k, .int .i64 b, .int .i64 c, .int .i64 (p * k), .int .i64 (s + k)]) (by simp [results, Try.results120, go_sem]) rfl ⟨rfl, bl_alloc (bl_alloc (Below.refl _ _) _) _⟩
  · exact bodyPost_ret (v := .agg #[.int .i64 a, .int .i64 k, .int .i64 c, .int .i64 (p * k), .int .i64 (s + k)]) (by simp [results, Try.results120, go_sem]) rfl ⟨rfl, bl_alloc (bl_alloc (Below.refl _ _) _) _⟩
  · exact bodyPost_ret (v := .agg #[.int .i64 a, .int .i64 b, .int .i64 k, .int .i64 (p * k), .int .i64 (s + k)]) (by simp [results, Try.results120, go_sem]) rfl ⟨rfl, bl_alloc (bl_alloc (Below.refl _ _) _) _⟩

/-- Three numbers compared lexicographically. -/
def lex3 (a b c a' b' c' : Int) : Int := if a ≠ a' then cmpZ a a' else if b ≠ b' then cmpZ b b' else cmpZ c c'

theorem cmpZ_ne {a b : Int} (h : a ≠ b) : cmpZ a b ≠ 0 := by unfold cmpZ; split <;> (try split) <;> omega

theorem cmpEq {a b : Int} (h : a = b) (W : World) : Calls Try.prog 94 #[.int .i64 a, .int .i64 b] W fun e w' => e = .returned (.int .i64 0) ∧ W = w' := by
  have := cmpI_any a b W
  rwa [cmpZ_eq h] at this
theorem cmpNe {a b : Int} (h : a ≠ b) : ∃ r : Int, (r != 0) = true ∧ Hid (cmpZ a b = r) ∧ ∀ W, Hid (Calls Try.prog 94 #[.int .i64 a, .int .i64 b] W fun e w' => e = .returned (.int .i64 r) ∧ W = w') :=
  ⟨cmpZ a b, by simpa using cmpZ_ne h, rfl, fun W => Lib.hid (cmpI_any a b W)⟩

set_option maxHeartbeats 2000000 in
theorem cmp3_any (a b c a' b' c' : Int) (g k : Nat) (w : World) (h0 : w.cell? ⟨g, 0, none⟩ = some (.int .i64 a)) (h1 : w.cell? ⟨g, 1, none⟩ = some (.int .i64 b)) (h2 : w.cell? ⟨g, 2, none⟩ = some (.int .i64 c))
    (k0 : w.cell? ⟨k, 0, none⟩ = some (.int .i64 a')) (k1 : w.cell? ⟨k, 1, none⟩ = some (.int .i64 b')) (k2 : w.cell? ⟨k, 2, none⟩ = some (.int .i64 c')) :
    Calls Try.prog 108 #[.slice (some ⟨g, 0, none⟩) 3 3, .slice (some ⟨k, 0, none⟩) 3 3] w fun e w' => e = .returned (.int .i64 (lex3 a b c a' b' c')) ∧ w = w' := by
  by_cases e1 : a = a'
  · have N1 := fun W => Lib.hid (cmpEq e1 W)
    by_cases e2 : b = b'
    · have N2 := fun W => Lib.hid (cmpEq e2 W)
      by_cases e3 : c = c'
      · have N3 := fun W => Lib.hid (cmpEq e3 W)
        have E := Lib.hid (show lex3 a b c a' b' c' = 0 by unfold lex3; rw [if_neg (by omega), if_neg (by omega), cmpZ_eq e3])
        clear e1 e2 e3
        go_enter Try.func108, Try.ntmps108
        go_wp2_with fail
        refine wp_loop_rounds 4 ?_
        rw [rounds_succ]
        go_wp2_with fail
        refine (N1 _).out.mono ?_
        rintro e w' ⟨rfl, rfl⟩
        go_wp2_with fail
        rw [rounds_succ]
        go_wp2_with fail
        refine (N2 _).out.mono ?_
        rintro e w' ⟨rfl, rfl⟩
        go_wp2_with fail
        rw [rounds_succ]
        go_wp2_with fail
        refine (N3 _).out.mono ?_
        rintro e w' ⟨rfl, rfl⟩
        go_wp2_with fail
        rw [rounds_succ]
        go_wp2_with fail
        go_ret
        exact ⟨ret_i64 E.out.symm, rfl⟩
      · obtain ⟨r, hr, hc, N3⟩ := cmpNe e3
        have E := Lib.hid (show lex3 a b c a' b' c' = r by unfold lex3; rw [if_neg (by omega), if_neg (by omega)]; exact hc.out)
        clear e1 e2 e3 hc
        go_enter Try.func108, Try.ntmps108
        go_wp2_with fail
        refine wp_loop_rounds 4 ?_
        rw [rounds_succ]
        go_wp2_with fail
        refine (N1 _).out.mono ?_
        rintro e w' ⟨rfl, rfl⟩
        go_wp2_with fail
        rw [rounds_succ]
        go_wp2_with fail
        refine (N2 _).out.mono ?_
        rintro e w' ⟨rfl, rfl⟩
        go_wp2_with fail
        rw [rounds_succ]
        go_wp2_with fail
        refine (N3 _).out.mono ?_
        rintro e w' ⟨rfl, rfl⟩
        go_wp2_with fail
        go_ret
        exact ⟨ret_i64 E.out.symm, rfl⟩
    · obtain ⟨r, hr, hc, N2⟩ := cmpNe e2
      have E := Lib.hid (show lex3 a b c a' b' c' = r by unfold lex3; rw [if_neg (by omega), if_pos e2]; exact hc.out)
      clear e1 e2 hc
      go_enter Try.func108, Try.ntmps108
      go_wp2_with fail
      refine wp_loop_rounds 4 ?_
      rw [rounds_succ]
      go_wp2_with fail
      refine (N1 _).out.mono ?_
      rintro e w' ⟨rfl, rfl⟩
      go_wp2_with fail
      rw [rounds_succ]
      go_wp2_with fail
      refine (N2 _).out.mono ?_
      rintro e w' ⟨rfl, rfl⟩
      go_wp2_with fail
      go_ret
      exact ⟨ret_i64 E.out.symm, rfl⟩
  · obtain ⟨r, hr, hc, N1⟩ := cmpNe e1
    have E := Lib.hid (show lex3 a b c a' b' c' = r by unfold lex3; rw [if_pos e1]; exact hc.out)
    clear e1 hc
    go_enter Try.func108, Try.ntmps108
    go_wp2_with fail
    refine wp_loop_rounds 4 ?_
    rw [rounds_succ]
    go_wp2_with fail
    refine (N1 _).out.mono ?_
    rintro e w' ⟨rfl, rfl⟩
    go_wp2_with fail
    go_ret
    exact ⟨ret_i64 E.out.symm, rfl⟩

/-- What compareSides returns. -/
def cmpS (x y : Side) : Int := if x.p ≠ y.p then cmpZ x.p y.p else if x.s ≠ y.s then cmpZ x.s y.s else lex3 x.a x.b x.c y.a y.b y.c

set_option maxHeartbeats 2000000 in
theorem cmpSides_any (x y : Side) (w : World) :
    Calls Try.prog 122 #[.agg #[.int .i64 x.a, .int .i64 x.b, .int .i64 x.c, .int .i64 x.p, .int .i64 x.s], .agg #[.int .i64 y.a, .int .i64 y.b, .int .i64 y.c, .int .i64 y.p, .int .i64 y.s]] w fun e w' =>
      e = .returned (.int .i64 (cmpS x y)) ∧ ∃ q os', w' = grow (w.drewN q) os' := by
  obtain ⟨a, b, c, p, s⟩ := x
  obtain ⟨a', b', c', p', s'⟩ := y
  simp only at *
  by_cases e1 : p = p'
  · have t1 : (p != p') = false := by simpa using e1
    by_cases e2 : s = s'
    · have t2 : (s != s') = false := by simpa using e2
      have E := Lib.hid (show cmpS ⟨a, b, c, p, s⟩ ⟨a', b', c', p', s'⟩ = lex3 a b c a' b' c' by unfold cmpS; rw [if_neg (by simpa using e1), if_neg (by simpa using e2)])
      have hc := fun (W : World) g k h0 h1 h2 k0 k1 k2 => Lib.hid (cmp3_any a b c a' b' c' g k W h0 h1 h2 k0 k1 k2)
      generalize lex3 a b c a' b' c' = r at *
      generalize cmpS ⟨a, b, c, p, s⟩ ⟨a', b', c', p', s'⟩ = r' at *
      clear e1 e2
      go_enter Try.func122, Try.ntmps122
      go_wp2_with fail
      go_quiet ((go_at_call 108; refine qt_same (hc _ _ _ ?_ ?_ ?_ ?_ ?_ ?_).out <;> simp))
      go_wp2
      go_ret
      exact ⟨ret_i64 E.out.symm, _, _, by rw [alloc_eq_grow, alloc_eq_grow, grow_grow]; rfl⟩
    · have t2 : (s != s') = true := by simpa using e2
      obtain ⟨r, hr, hc, N1⟩ := cmpNe e2
      have E := Lib.hid (show cmpS ⟨a, b, c, p, s⟩ ⟨a', b', c', p', s'⟩ = r by unfold cmpS; rw [if_neg (by simpa using e1), if_pos (by simpa using e2)]; exact hc.out)
      clear e1 e2 hc
      generalize cmpS ⟨a, b, c, p, s⟩ ⟨a', b', c', p', s'⟩ = r' at *
      go_enter Try.func122, Try.ntmps122
      go_wp2_with fail
      refine (N1 _).out.mono ?_
      rintro e w' ⟨rfl, rfl⟩
      go_wp2_with fail
      go_ret
      exact ⟨ret_i64 E.out.symm, 0, _, by rw [alloc_eq_grow, alloc_eq_grow, grow_grow]; rfl⟩
  · have t1 : (p != p') = true := by simpa using e1
    obtain ⟨r, hr, hc, N1⟩ := cmpNe e1
    have E := Lib.hid (show cmpS ⟨a, b, c, p, s⟩ ⟨a', b', c', p', s'⟩ = r by unfold cmpS; rw [if_pos (by simpa using e1)]; exact hc.out)
    clear e1 hc
    generalize cmpS ⟨a, b, c, p, s⟩ ⟨a', b', c', p', s'⟩ = r' at *
    go_enter Try.func122, Try.ntmps122
    go_wp2_with fail
    refine (N1 _).out.mono ?_
    rintro e w' ⟨rfl, rfl⟩
    go_wp2_with fail
    go_ret
    exact ⟨ret_i64 E.out.symm, 0, _, by rw [alloc_eq_grow, alloc_eq_grow, grow_grow]; rfl⟩

/-! ### The order of the sides -/
theorem cmpZ_cases (a b : Int) : (cmpZ a b = -1 ∧ a < b) ∨ (cmpZ a b = 0 ∧ a = b) ∨ (cmpZ a b = 1 ∧ b < a) := by
  unfold cmpZ; split
  · exact .inl ⟨rfl, by assumption⟩
  · split
    · exact .inr (.inr ⟨rfl, by assumption⟩)
    · exact .inr (.inl ⟨rfl, by omega⟩)
/-- x comes ahead of y. -/
def Side.lt (x y : Side) : Prop := x.p < y.p ∨ (x.p = y.p ∧ (x.s < y.s ∨ (x.s = y.s ∧ (x.a < y.a ∨ (x.a = y.a ∧ (x.b < y.b ∨ (x.b = y.b ∧ x.c < y.c)))))))
theorem cmpS_lt (x y : Side) : cmpS x y < 0 ↔ x.lt y := by
  unfold cmpS lex3 Side.lt
  have h1 := cmpZ_cases x.p y.p
  have h2 := cmpZ_cases x.s y.s
  have h3 := cmpZ_cases x.a y.a
  have h4 := cmpZ_cases x.b y.b
  have h5 := cmpZ_cases x.c y.c
  split
  · omega
  · split
    · omega
    · split
      · omega
      · split <;> omega
theorem swoS : SWO (ltOf cmpS) where
  irrefl x := by unfold ltOf; rw [decide_eq_false_iff_not, cmpS_lt]; unfold Side.lt; omega
  trans x y z h1 h2 := by unfold ltOf at *; rw [decide_eq_true_iff, cmpS_lt] at *; unfold Side.lt at *; omega
  ntrans x y z h1 h2 := by unfold ltOf at *; rw [decide_eq_false_iff_not, cmpS_lt] at *; unfold Side.lt at *; omega
theorem totS (x y : Side) (h1 : ltOf cmpS x y = false) (h2 : ltOf cmpS y x = false) : x = y := by
  unfold ltOf at *
  rw [decide_eq_false_iff_not, cmpS_lt] at h1 h2
  unfold Side.lt at *
  obtain ⟨a, b, c, p, s⟩ := x
  obtain ⟨a', b', c', p', s'⟩ := y
  simp only at *
  simp only [Side.mk.injEq]
  omega

theorem cmpLays (blk off size : Nat) (w : World) : CmpLays Try.prog 122 #[] Side.enc 5 cmpS blk off size w :=
  fun _ _ _ _ x y => cmpSides_any x y _
end Go.Proofs.Ytoenimkgagndnaa
namespace Go.Proofs.Ytoenimkgagndnaa
set_option linter.unusedVariables false
set_option linter.unusedSimpArgs false
open Go.RowKit Go.Shelf Go.Lib Go.Sort

theorem enc_len (x : Side) : x.enc.length = 5 := rfl
theorem enc_one (x : Side) : ∀ v ∈ x.enc, v.oneCell' = true := fun v hv => by
  simp [Side.enc] at hv
  rcases hv with rfl | rfl | rfl | rfl | rfl <;> rfl

section
variable {W W1 : World} {g : Nat} {d : Array Side}
theorem holdsK_mk (h : ∀ i, i < d.size → ∀ c, c < 5 → W.cell? ⟨g, i * 5 + c, none⟩ = some (d[i]!.enc)[c]! ∧ W.frozen? ⟨g, i * 5 + c, none⟩ = false) : HoldsK Side.enc 5 W g 0 d := by
  intro j hj
  rw [size_flatK] at hj
  rw [get_flatK _ _ _ _ hj]
  have h1 : j / 5 < d.size := by omega
  have h2 := h (j / 5) h1 (j % 5) (by omega)
  rw [show j / 5 * 5 + j % 5 = j by omega] at h2
  rw [Nat.zero_add]
  exact h2
theorem holdsK_at (h : HoldsK Side.enc 5 W g 0 d) {i : Nat} (hi : i < d.size) {c : Nat} (hc : c < 5) : W.cell? ⟨g, i * 5 + c, none⟩ = some (d[i]!.enc)[c]! ∧ W.frozen? ⟨g, i * 5 + c, none⟩ = false := by
  have := h.cell hi hc
  rwa [Nat.zero_add] at this
theorem cells5 (h : HoldsK Side.enc 5 W g 0 d) {i : Nat} (hi : i < d.size) :
    (W.cell? ⟨g, i * 5, none⟩ = some (.int .i64 d[i]!.a) ∧ W.cell? ⟨g, i * 5 + 1, none⟩ = some (.int .i64 d[i]!.b) ∧ W.cell? ⟨g, i * 5 + 2, none⟩ = some (.int .i64 d[i]!.c) ∧ W.cell? ⟨g, i * 5 + 3, none⟩ = some (.int .i64 d[i]!.p) ∧ W.cell? ⟨g, i * 5 + 4, none⟩ = some (.int .i64 d[i]!.s)) ∧
    (W.frozen? ⟨g, i * 5, none⟩ = false ∧ W.frozen? ⟨g, i * 5 + 1, none⟩ = false ∧ W.frozen? ⟨g, i * 5 + 2, none⟩ = false ∧ W.frozen? ⟨g, i * 5 + 3, none⟩ = false ∧ W.frozen? ⟨g, i * 5 + 4, none⟩ = false) := by
  have h0 := holdsK_at h hi (show 0 < 5 by omega)
  have h1 := holdsK_at h hi (show 1 < 5 by omega)
  have h2 := holdsK_at h hi (show 2 < 5 by omega)
  have h3 := holdsK_at h hi (show 3 < 5 by omega)
  have h4 := holdsK_at h hi (show 4 < 5 by omega)
  exact ⟨⟨h0.1, h1.1, h2.1, h3.1, h4.1⟩, h0.2, h1.2, h2.2, h3.2, h4.2⟩
theorem holdsK_below (hb : Below W.heap.size W W1) (hg : g < W.heap.size) (h : HoldsK Side.enc 5 W g 0 d) : HoldsK Side.enc 5 W1 g 0 d := fun j hj =>
  ⟨(hb.cell (p := ⟨g, 0 + j, none⟩) hg).trans (h j hj).1, (hb.frozen (p := ⟨g, 0 + j, none⟩) hg).trans (h j hj).2⟩
/-- The store of a whole element. -/
def put5 (W : World) (g i : Nat) (x : Side) : World := ((((W.setCell ⟨g, i * 5, none⟩ (.int .i64 x.a)).setCell ⟨g, i * 5 + 1, none⟩ (.int .i64 x.b)).setCell ⟨g, i * 5 + 2, none⟩ (.int .i64 x.c)).setCell ⟨g, i * 5 + 3, none⟩ (.int .i64 x.p)).setCell ⟨g, i * 5 + 4, none⟩ (.int .i64 x.s)
theorem put5_eq (W : World) (g i : Nat) (x : Side) : put5 W g i x = W.setCells g (i * 5) x.enc := by
  simp only [put5, Side.enc, World.setCells]
theorem get_set (d : Array Side) (i j : Nat) (x : Side) (hi : i < d.size) : (d.setIfInBounds i x)[j]! = if j = i then x else d[j]! := by
  by_cases h : j = i
  · subst h; rw [getElem!_set_same d j x hi, if_pos rfl]
  · rw [getElem!_set_other d i j x h, if_neg h]
theorem holdsK_put5 (h : HoldsK Side.enc 5 W g 0 d) {i : Nat} (hi : i < d.size) (x : Side) : HoldsK Side.enc 5 (put5 W g i x) g 0 (d.setIfInBounds i x) := by
  rw [put5_eq]
  refine holdsK_mk fun j hj c hc => ?_
  have hj' : j < d.size := by simpa using hj
  refine ⟨?_, by rw [World.frozen?_setCells]; exact (holdsK_at h hj' hc).2⟩
  rw [get_set d i j x hi]
  by_cases e : j = i
  · subst e
    rw [if_pos rfl]
    have hl : c < x.enc.length := by rw [enc_len]; exact hc
    have := World.cell?_setCells_in g x.enc (j * 5) W (fun c hc => by rw [enc_len] at hc; rw [(holdsK_at h hi hc).1]; rfl) c hl
    exact this.trans (congrArg some (getElem!_pos x.enc c hl).symm)
  · rw [if_neg e, World.cell?_setCells_out g x.enc (i * 5) W _ (fun _ _ => by simp only [enc_len]; omega)]
    exact (holdsK_at h hj' hc).1
theorem put5_below {a : World} {B : Nat} (hB : B ≤ g) (h : Below B a W) (i : Nat) (x : Side) : Below B a (put5 W g i x) := by
  rw [put5_eq]
  exact below_setCells g hB _ _ h
theorem put5_size (i : Nat) (x : Side) : (put5 W g i x).heap.size = W.heap.size := by simp [put5]

/-- What stands ahead of a run of stores. -/
theorem holdsK_pre (h : HoldsK Side.enc 5 W g 0 d) {m : Nat} (hm : m ≤ d.size) (vs : List Value) : HoldsK Side.enc 5 (W.setCells g (m * 5) vs) g 0 (d.extract 0 m) := by
  refine holdsK_mk fun j hj c hc => ?_
  have hj' : j < m := by simp at hj; omega
  refine ⟨?_, by rw [World.frozen?_setCells]; exact (holdsK_at h (by omega) hc).2⟩
  rw [World.cell?_setCells_out g vs (m * 5) W _ (fun _ _ => by simp only; omega)]
  have : (d.extract 0 m)[j]! = d[j]! := by
    rw [getElem!_pos _ j hj, getElem!_pos d j (by omega)]
    simp
  rw [this]
  exact (holdsK_at h (by omega) hc).1
end

/-- clear of a part of a row of sides. -/
theorem run_clear5 {P : Program} (W : World) (t e ty : TypeId) (ht : P.underlying t = some (.slice e)) (hv : ∀ w, (zeroValue e).run P w = .ok (.agg #[.int .i64 0, .int .i64 0, .int .i64 0, .int .i64 0, .int .i64 0]) w) (g o n c : Nat) (hn : 0 < n)
    (hc : ∀ j, j < n * 5 → (W.cell? ⟨g, o + j, none⟩).isSome = true) (hf : ∀ j, j < n * 5 → W.frozen? ⟨g, o + j, none⟩ = false) :
    ∃ vs, (Builtin.clear_ #[t] ty #[.slice (some ⟨g, o, none⟩) n c]).run P W = .ok (.tuple #[]) (W.setCells g o vs) := by
  refine ⟨(Builtin.zeroCells (Value.agg #[.int .i64 0, .int .i64 0, .int .i64 0, .int .i64 0, .int .i64 0]).cells n).toList, ?_⟩
  have hz : (Value.agg #[.int .i64 0, .int .i64 0, .int .i64 0, .int .i64 0, .int .i64 0]).cells = #[.int .i64 0, .int .i64 0, .int .i64 0, .int .i64 0, .int .i64 0] := rfl
  have hl : (Builtin.zeroCells (Value.agg #[.int .i64 0, .int .i64 0, .int .i64 0, .int .i64 0, .int .i64 0]).cells n).toList.length = n * 5 := by
    rw [hz]; simp [Builtin.zeroCells]
  have hst := run_storeCells_cells (P := P) g o (Builtin.zeroCells (Value.agg #[.int .i64 0, .int .i64 0, .int .i64 0, .int .i64 0, .int .i64 0]).cells n).toList 0 W (by rw [hl]; simpa using hc) (by rw [hl]; simpa using hf) (by
    intro v hv'
    rw [hz] at hv'
    simp [Builtin.zeroCells] at hv'
    obtain ⟨i, _, rfl⟩ := hv'
    have : i % 5 = 0 ∨ i % 5 = 1 ∨ i % 5 = 2 ∨ i % 5 = 3 ∨ i % 5 = 4 := by omega
    rcases this with e | e | e | e | e <;> simp [e] <;> rfl)
  simp only [Nat.add_zero] at hst
  obtain ⟨m, rfl⟩ : ∃ m, n = m + 1 := ⟨n - 1, by omega⟩
  simp [Builtin.clear_, run_underlying ht, hv, hst]

/-! ### The plain side of CompactFunc -/
/-- Element j is kept. -/
def keepAt (d : Array Side) (j : Nat) : Bool := j == 0 || !(d[j]!.p == d[j - 1]!.p)
/-- What is kept of the first n. -/
def cmpL (d : Array Side) (n : Nat) : List Side := ((List.range n).filter (keepAt d)).map (d[·]!)
theorem cmpL_snoc (d : Array Side) (n : Nat) : cmpL d (n + 1) = cmpL d n ++ if keepAt d n = true then [d[n]!] else [] := by
  unfold cmpL
  rw [List.range_succ, List.filter_append, List.map_append]
  by_cases h : keepAt d n = true <;> simp [List.filter_cons, h]
theorem cmpL_all (d : Array Side) (n : Nat) (h : ∀ j, j < n → keepAt d j = true) : cmpL d n = (List.range n).map (d[·]!) := by
  unfold cmpL
  rw [List.filter_eq_self.2 (fun j hj => h j (by simpa using hj))]

/-- The second loop of CompactFunc: n elements are read, kk are kept. -/
structure CInv (d : Array Side) (n kk : Nat) (dk : Array Side) : Prop where
  size : dk.size = d.size
  len : kk = (cmpL d n).length
  low : ∀ j, j < kk → dk[j]! = (cmpL d n)[j]!
  high : ∀ j, n - 1 ≤ j → dk[j]! = d[j]!
  lt : kk < n
theorem CInv.start {d : Array Side} {k : Nat} (h : ∀ j, j < k → keepAt d j = true) (hk : keepAt d k = false) : CInv d (k + 1) k d := by
  have e : cmpL d (k + 1) = (List.range k).map (d[·]!) := by rw [cmpL_snoc, hk, cmpL_all d k h]; simp
  exact ⟨rfl, by rw [e]; simp, fun j hj => by rw [e, getElem!_pos ((List.range k).map (d[·]!)) j (by simpa using hj)]; simp, fun _ _ => rfl, by omega⟩
theorem CInv.skip {d : Array Side} {n kk : Nat} {dk : Array Side} (h : CInv d n kk dk) (hn : keepAt d n = false) : CInv d (n + 1) kk dk := by
  have e : cmpL d (n + 1) = cmpL d n := by rw [cmpL_snoc, hn]; simp
  exact ⟨h.size, by rw [e]; exact h.len, fun j hj => by rw [e]; exact h.low j hj, fun j hj => h.high j (by omega), by have := h.lt; omega⟩
theorem CInv.keep {d : Array Side} {n kk : Nat} {dk : Array Side} (h : CInv d n kk dk) (hlt : n < d.size) (hn : keepAt d n = true) : CInv d (n + 1) (kk + 1) (dk.setIfInBounds kk d[n]!) := by
  have e : cmpL d (n + 1) = cmpL d n ++ [d[n]!] := by rw [cmpL_snoc, hn]; simp
  have hk := h.lt
  have hs := h.size
  refine ⟨by simp [hs], by rw [e, List.length_append, ← h.len]; rfl, fun j hj => ?_, fun j hj => ?_, by omega⟩
  · rw [get_set dk kk j _ (by omega), e]
    by_cases ej : j = kk
    · subst ej
      rw [if_pos rfl, getElem!_pos _ j (by rw [List.length_append, ← h.len]; simp), List.getElem_append_right (by rw [← h.len]; exact Nat.le_refl _)]
      simp
    · rw [if_neg ej, h.low j (by omega), getElem!_pos _ j (by rw [← h.len]; omega), getElem!_pos _ j (by rw [List.length_append, ← h.len]; simp; omega), List.getElem_append_left]
  · rw [get_set dk kk j _ (by omega), if_neg (by omega)]
    exact h.high j (by omega)
theorem CInv.done {d : Array Side} {kk : Nat} {dk : Array Side} (h : CInv d d.size kk dk) : dk.extract 0 kk = (cmpL d d.size).toArray := by
  have hk := h.lt
  have hs := h.size
  apply Array.ext
  · simp [h.len.symm]; omega
  · intro i h1 h2
    have hi : i < kk := by simp at h1; omega
    have := h.low i hi
    rw [getElem!_pos dk i (by omega), getElem!_pos _ i (by rw [← h.len]; exact hi)] at this
    simpa using this
theorem cmpL_none {d : Array Side} (h : ∀ j, j < d.size → keepAt d j = true) : (cmpL d d.size).toArray = d := by
  rw [cmpL_all d _ h]
  apply Array.ext
  · simp
  · intro i h1 h2
    simp
    exact getElem!_pos d i h2
end Go.Proofs.Ytoenimkgagndnaa
namespace Go.Proofs.Ytoenimkgagndnaa
set_option linter.unusedVariables false
set_option linter.unusedSimpArgs false
open Go.RowKit Go.Shelf Go.Lib Go.Sort

def Side.tooth (x : Side) (i : Nat) : Int := if i = 0 then x.a else if i = 1 then x.b else x.c
def fromOf (low : Int) (r : Bool) (k : Nat) (x : Side) : Int := if 0 < k ∧ r = true then x.tooth (k - 1) else low
def toOf (high : Int) (r : Bool) (k : Nat) (x : Side) : Int := if 0 < k ∧ r = false then x.tooth (k - 1) else high
/-- The longer sides of a side: the first n. -/
def extTo (low : Int) (r : Bool) (k : Nat) (x : Side) (n : Nat) : List Side := (List.range n).map fun (i : Nat) => x.with k (fromOf low r k x + (i : Int))
def ext (low high : Int) (r : Bool) (k : Nat) (x : Side) : List Side := extTo low r k x (toOf high r k x - fromOf low r k x + 1).toNat
def gen (low high : Int) (r : Bool) : Nat → List Side
  | 0 => [⟨0, 0, 0, 1, 0⟩]
  | k + 1 => (gen low high r k).flatMap (ext low high r k)

/-- What holds of a side of k stages. -/
def Good (low high : Int) (k : Nat) (x : Side) : Prop := (∀ i, i < k → low ≤ x.tooth i ∧ x.tooth i ≤ high) ∧ 1 ≤ x.p ∧ x.p ≤ 200 ^ k ∧ 0 ≤ x.s ∧ x.s ≤ 200 * k

theorem tooth_with (x : Side) (k : Nat) (t : Int) (hk : k < 3) (i : Nat) (hi : i ≤ k) : (x.with k t).tooth i = if i = k then t else x.tooth i := by
  unfold Side.with Side.tooth
  rcases (show k = 0 ∨ k = 1 ∨ k = 2 by omega) with rfl | rfl | rfl
  · obtain rfl : i = 0 := by omega
    simp
  · rcases (show i = 0 ∨ i = 1 by omega) with rfl | rfl <;> simp
  · rcases (show i = 0 ∨ i = 1 ∨ i = 2 by omega) with rfl | rfl | rfl <;> simp

theorem good_with {low high : Int} {k : Nat} {x : Side} (h : Good low high k x) (hk : k < 3) {t : Int} (h1 : low ≤ t) (h2 : t ≤ high) (h3 : 1 ≤ low) (h4 : high ≤ 200) : Good low high (k + 1) (x.with k t) := by
  obtain ⟨ht, hp1, hp2, hs1, hs2⟩ := h
  refine ⟨fun i hi => ?_, ?_, ?_, ?_, ?_⟩
  · rw [tooth_with x k t hk i (by omega)]
    split
    · exact ⟨h1, h2⟩
    · exact ht i (by omega)
  · show 1 ≤ x.p * t
    have := Int.mul_le_mul hp1 (show 1 ≤ t by omega) (by omega) (by omega)
    omega
  · show x.p * t ≤ 200 ^ (k + 1)
    have := Int.mul_le_mul hp2 (show t ≤ 200 by omega) (by omega) (by omega)
    rw [Int.pow_succ]
    exact this
  · show 0 ≤ x.s + t; omega
  · show x.s + t ≤ 200 * ((k + 1 : Nat) : Int); omega

theorem from_to {low high : Int} {r : Bool} {k : Nat} {x : Side} (h : Good low high k x) (hlh : low ≤ high) : low ≤ fromOf low r k x ∧ fromOf low r k x ≤ high ∧ low ≤ toOf high r k x ∧ toOf high r k x ≤ high ∧ fromOf low r k x ≤ toOf high r k x := by
  unfold fromOf toOf
  by_cases hk : 0 < k
  · have := h.1 (k - 1) (by omega)
    cases r <;> simp [hk] <;> omega
  · simp [hk]; omega

theorem gen_good {low high : Int} {r : Bool} (hlh : low ≤ high) (h3 : 1 ≤ low) (h4 : high ≤ 200) : ∀ k, k ≤ 3 → ∀ x ∈ gen low high r k, Good low high k x
  | 0, _, x, hx => by
    simp [gen] at hx
    subst hx
    exact ⟨fun i hi => absurd hi (by omega), by decide, by decide, by decide, by decide⟩
  | k + 1, hk, x, hx => by
    simp only [gen, List.mem_flatMap] at hx
    obtain ⟨y, hy, hx⟩ := hx
    have hg := gen_good hlh h3 h4 k (by omega) y hy
    have hft := from_to (r := r) hg hlh
    simp only [ext, extTo, List.mem_map, List.mem_range] at hx
    obtain ⟨i, hi, rfl⟩ := hx
    exact good_with hg (by omega) (by omega) (by omega) h3 h4

theorem ext_len {low high : Int} {r : Bool} {k : Nat} {x : Side} (h : Good low high k x) (hlh : low ≤ high) (hw : high - low < 64) : (ext low high r k x).length ≤ 64 ∧ 1 ≤ (ext low high r k x).length := by
  have hft := from_to (r := r) h hlh
  simp only [ext, extTo, List.length_map, List.length_range]
  omega

theorem flat_len {α β : Type} (f : α → List β) (n : Nat) : ∀ l : List α, (∀ x ∈ l, (f x).length ≤ n) → (l.flatMap f).length ≤ l.length * n
  | [], _ => by simp
  | x :: l, h => by
    have h1 := h x List.mem_cons_self
    have h2 := flat_len f n l (fun y hy => h y (List.mem_cons_of_mem _ hy))
    simp only [List.flatMap_cons, List.length_append, List.length_cons, Nat.add_mul]
    omega
theorem flat_pos {α β : Type} (f : α → List β) : ∀ l : List α, 1 ≤ l.length → (∀ x ∈ l, 1 ≤ (f x).length) → 1 ≤ (l.flatMap f).length
  | [], h, _ => by simp at h
  | x :: l, _, h => by
    have h1 := h x List.mem_cons_self
    simp only [List.flatMap_cons, List.length_append]
    omega

theorem gen_len {low high : Int} {r : Bool} (hlh : low ≤ high) (h3 : 1 ≤ low) (h4 : high ≤ 200) (hw : high - low < 64) : ∀ k, k ≤ 3 → (gen low high r k).length ≤ 64 ^ k ∧ 1 ≤ (gen low high r k).length
  | 0, _ => by simp [gen]
  | k + 1, hk => by
    have ih := gen_len (r := r) hlh h3 h4 hw k (by omega)
    have hg := gen_good (r := r) hlh h3 h4 k (by omega)
    constructor
    · have := flat_len (ext low high r k) 64 (gen low high r k) (fun x hx => (ext_len (hg x hx) hlh hw).1)
      simp only [gen, Nat.pow_succ]
      have := Nat.mul_le_mul_right 64 ih.1
      omega
    · exact flat_pos _ _ ih.2 (fun x hx => (ext_len (hg x hx) hlh hw).2)

/-- What the first j sides of k stages give. -/
def accTo (low high : Int) (r : Bool) (k j : Nat) : List Side := ((gen low high r k).take j).flatMap (ext low high r k)
theorem accTo_zero (low high : Int) (r : Bool) (k : Nat) : accTo low high r k 0 = [] := by simp [accTo]
theorem accTo_succ (low high : Int) (r : Bool) (k j : Nat) (hj : j < (gen low high r k).length) : accTo low high r k (j + 1) = accTo low high r k j ++ ext low high r k ((gen low high r k)[j]) := by
  unfold accTo
  rw [List.take_succ_eq_append_getElem hj, List.flatMap_append]
  simp
theorem accTo_end (low high : Int) (r : Bool) (k : Nat) : accTo low high r k (gen low high r k).length = gen low high r (k + 1) := by
  unfold accTo
  rw [List.take_length]
  rfl
theorem accTo_len {low high : Int} {r : Bool} (hlh : low ≤ high) (h3 : 1 ≤ low) (h4 : high ≤ 200) (hw : high - low < 64) (k j : Nat) (hk : k ≤ 3) : (accTo low high r k j).length ≤ j * 64 := by
  have hg := gen_good (r := r) hlh h3 h4 k (by omega)
  have := flat_len (ext low high r k) 64 ((gen low high r k).take j) (fun x hx => (ext_len (hg x (List.mem_of_mem_take hx)) hlh hw).1)
  have hl : ((gen low high r k).take j).length ≤ j := List.length_take_le _ _
  have := Nat.mul_le_mul_right 64 hl
  unfold accTo
  omega
theorem extTo_succ (low : Int) (r : Bool) (k : Nat) (x : Side) (n : Nat) : extTo low r k x (n + 1) = extTo low r k x n ++ [x.with k (fromOf low r k x + n)] := by
  simp [extTo, List.range_succ]

/-! ### A row of sides of the call's own -/
def flat (l : List Side) : List Value := l.flatMap Side.enc
theorem flat_snoc (l : List Side) (x : Side) : flat (l ++ [x]) = flat l ++ x.enc := by simp [flat]
theorem flat_get (l : List Side) (i c : Nat) (hi : i < l.length) (hc : c < 5) : (flat l)[i * 5 + c]? = some (l[i].enc)[c]! := by
  induction l generalizing i with
  | nil => simp at hi
  | cons x l ih =>
    cases i with
    | zero =>
      simp only [flat, List.flatMap_cons, Nat.zero_mul, Nat.zero_add]
      rw [List.getElem?_append_left (by rw [enc_len]; exact hc)]
      simp only [List.getElem_cons_zero]
      rw [List.getElem?_eq_getElem (by rw [enc_len]; exact hc)]
      exact congrArg some (getElem!_pos x.enc c (by rw [enc_len]; exact hc)).symm
    | succ i =>
      have := ih i (by simpa using hi)
      simp only [flat, List.flatMap_cons] at *
      rw [List.getElem?_append_right (by rw [enc_len]; omega), enc_len, show (i + 1) * 5 + c - 5 = i * 5 + c by omega, this]
      simp

theorem holds_of_own {W : World} {base e : Nat} {v : Value} {l : List Side} (h : W.ownsRow base e 5 v l.length (flat l)) (hl : 1 ≤ l.length) :
    ∃ g cap, v = .slice (some ⟨g, 0, none⟩) l.length cap ∧ base ≤ g ∧ g < W.heap.size ∧ l.length ≤ cap ∧ cap ≤ maxLen ∧ HoldsK Side.enc 5 W g 0 l.toArray := by
  rcases h.2 with ⟨_, h0⟩ | ⟨g, cap, cur, rfl, hb, hh, hnc, hcm, hcs, htake⟩
  · omega
  · refine ⟨g, cap, rfl, hb, (Array.getElem?_eq_some_iff.1 hh).1, hnc, hcm, holdsK_mk fun i hi c hc => ?_⟩
    have hi' : i < l.length := by simpa using hi
    have e1 := flat_get l i c hi' hc
    rw [← htake, List.getElem?_take, if_pos (by omega)] at e1
    have e2 : (l.toArray)[i]! = l[i] := by rw [getElem!_pos _ i hi]; simp
    rw [e2]
    refine ⟨?_, ?_⟩
    · unfold World.cell?
      simp only [hh]
      simpa using e1
    · unfold World.frozen?
      simp [hh]
end Go.Proofs.Ytoenimkgagndnaa
namespace Go.Proofs.Ytoenimkgagndnaa
set_option linter.unusedVariables false
set_option linter.unusedSimpArgs false
open Go.RowKit Go.Shelf Go.Lib Go.Sort

theorem still_tail {P : Program} {id : Nat} {Q : Exit → Act → World → Prop} {a : Act} {w : World} {l : List Oper} (n : Nat) (hm : P.follows .mixedOrders = true) (hB : Region.lexTailB .any l.toArray n = true)
    (h : wpStill P l.toArray w.drew (fun a' => wpList P l.toArray Q (l.drop n) a' w.drew) (l.take n) a) : (Code.region id l.toArray true).wp P Q a w := wp_region_still_tail n hm hB h

theorem below_grow (w : World) (q : Nat) (os : Array Obj) : Below w.heap.size w (grow (w.drewN q) os) :=
  ⟨rfl, rfl, rfl, by simp [grow], fun k hk => heap_grow_old (w.drewN q) os hk⟩

theorem bl_at {g : Nat} {w wr w1 : World} (h : Below g w wr) (hg : g < wr.heap.size) (hb : Below wr.heap.size wr.drew w1) : Below g w w1 := h.drew.trans (hb.mono (Nat.le_of_lt hg))
theorem eqS (r : Bool) (a b c p s a' b' c' p' s' : Int) (hr : (p == p') = r) (w : World) :
    Calls Try.prog 124 #[.agg #[.int .i64 a, .int .i64 b, .int .i64 c, .int .i64 p, .int .i64 s], .agg #[.int .i64 a', .int .i64 b', .int .i64 c', .int .i64 p', .int .i64 s']] w fun e w' => e = .returned (.bool r) ∧ Below w.heap.size w w' :=
  (eqSides_any a b c p s a' b' c' p' s' w).mono fun _ _ ⟨he, q, os, hw⟩ => ⟨by rw [he, hr], by rw [hw]; exact below_grow w q os⟩

/-- What CompactFunc leaves. -/
def Cmpd (g cap : Nat) (d : Array Side) (w : World) (e : Ending) (w' : World) : Prop :=
  e = .returned (.slice (some ⟨g, 0, none⟩) (cmpL d d.size).length cap) ∧ HoldsK Side.enc 5 w' g 0 (cmpL d d.size).toArray ∧ Below g w w'

theorem cmpd_none {g cap : Nat} {d : Array Side} {w w' : World} (h : ∀ j, j < d.size → keepAt d j = true) (hb : Below g w w') (hH : HoldsK Side.enc 5 w' g 0 d) : Cmpd g cap d w (.returned (.slice (some ⟨g, 0, none⟩) d.size cap)) w' := by
  have e := cmpL_none h
  have el : (cmpL d d.size).length = d.size := by
    have := congrArg Array.size e
    simpa using this
  exact ⟨by rw [el], by rw [e]; exact hH, hb⟩

set_option maxHeartbeats 4000000 in
set_option maxRecDepth 100000 in
theorem compact_any (g cap : Nat) (d : Array Side) (w : World) (hH : HoldsK Side.enc 5 w g 0 d) (hg : g < w.heap.size) (hsz : d.size ≤ 1048576) (hcap : d.size ≤ cap) (hcap2 : cap ≤ maxLen) :
    Calls Try.prog 123 #[.slice (some ⟨g, 0, none⟩) d.size cap, .func (.func 124) #[] #[]] w (Cmpd g cap d w) := by
  unfold maxLen at hcap2
  by_cases h2 : d.size < 2
  · have E := Lib.hid (cmpd_none (cap := cap) (fun j hj => by unfold keepAt; simp; omega) (Below.refl g w) hH)
    clear hH
    go_enter Try.func123, Try.ntmps123
    go_wp2
    go_ret
    exact E.out
  · have d2 : decide ((d.size : Int) < 2) = false := by simp; omega
    go_enter Try.func123, Try.ntmps123
    go_wp2
    go_loopg [5] d.size (fun gh s3 wr => ∃ k : Nat, 1 ≤ k ∧ k ≤ d.size ∧ d.size - k ≤ gh ∧ s3 = .int .i64 k ∧ Below g w wr ∧ g < wr.heap.size ∧ Hid (HoldsK Side.enc 5 wr g 0 d) ∧ Hid (∀ j, j < k → keepAt d j = true))
    case atStart => exact ⟨1, Nat.le_refl _, by omega, by omega, rfl, Below.refl _ _, hg, hH, fun j hj => by unfold keepAt; simp; omega⟩
    case round =>
      clear hH
      obtain ⟨k, hk1, hk, hgh, rfl, hB, hgl, hH, hK⟩ := hrel
      by_cases hlt : k < d.size
      · obtain ⟨⟨c0, c1, c2, c3, c4⟩, f0, f1, f2, f3, f4⟩ := cells5 hH.out hlt
        obtain ⟨⟨p0, p1, p2, p3, p4⟩, _⟩ := cells5 hH.out (show k - 1 < d.size by omega)
        generalize hx : d[k]! = x at c0 c1 c2 c3 c4
        generalize hy : d[k - 1]! = y at p0 p1 p2 p3 p4
        obtain ⟨a, b, c, p, s⟩ := x
        obtain ⟨a', b', c', p', s'⟩ := y
        simp only at c0 c1 c2 c3 c4 p0 p1 p2 p3 p4
        have hkk : keepAt d k = !(p == p') := by
          unfold keepAt
          rw [hx, hy]
          have : (k == 0) = false := by simp; omega
          rw [this, Bool.false_or]
        have KK := Lib.hid hkk
        clear hx hy hkk
        by_cases hdup : (p == p') = true
        · go_wp2_with fail
          have w1 : IntKind.i64.wrap ((k : Int) - 1) = (k : Int) - 1 := IntWalk.i64_in _ (by omega)
          have w2 : (0 : Int) ≤ (k : Int) - 1 := by omega
          have w5 : (1 : Int) ≤ (k : Int) := by omega
          have w3 : (k : Int) - 1 < (d.size : Int) := by omega
          have w4 : ((k : Int) - 1).toNat = k - 1 := by omega
          refine still_tail 10 (by kernel_rfl) (by kernel_rfl) ?_
          simp only [List.take_succ_cons, List.take_zero, List.drop_succ_cons, List.drop_zero]
          iterate 10 still_step
          refine wpStill_nil ?_
          clear w1 w2 w3 w4
          go_wp2_with fail
          refine (eqS true _ _ _ _ _ _ _ _ _ _ hdup _).mono ?_
          rintro e w1 ⟨rfl, hb1⟩
          have H1 : Hid (HoldsK Side.enc 5 w1 g 0 d) := holdsK_below hb1 hgl hH.out
          have B1 : Below g w w1 := bl_at hB hgl hb1
          have hg1 : g < w1.heap.size := by have := hb1.size; simp at this; omega
          have S1 : Hid (CInv d (k + 1) k d) := CInv.start hK.out (by rw [KK.out, hdup]; rfl)
          clear hb1 hB hH hK KK c0 c1 c2 c3 c4 p0 p1 p2 p3 p4 f0 f1 f2 f3 f4 hdup
          go_wp2_with fail
          go_loopg [5, 7] d.size (fun gh s5 s7 wr => ∃ (kk k2 : Nat) (dk : Array Side), s5 = .int .i64 kk ∧ s7 = .int .i64 k2 ∧ 1 ≤ k2 ∧ k + k2 ≤ d.size ∧ d.size - (k + k2) ≤ gh ∧ kk < k + k2 ∧ Below g w wr ∧ g < wr.heap.size ∧ Hid (HoldsK Side.enc 5 wr g 0 dk) ∧ Hid (CInv d (k + k2) kk dk))
          case atStart => exact ⟨k, 1, d, rfl, rfl, Nat.le_refl _, by omega, by omega, by omega, B1, hg1, H1, S1⟩
          case round =>
            clear B1 H1 S1
            obtain ⟨kk, k2, dk, rfl, rfl, hk21, hk2, hgh2, hkk, hB, hgl2, hH, hI⟩ := hrel
            have hds := hI.out.size
            by_cases hlt2 : k + k2 < d.size
            · have X1 := hI.out.high (k + k2) (by omega)
              have X2 := hI.out.high (k + k2 - 1) (by omega)
              obtain ⟨⟨c0, c1, c2, c3, c4⟩, _⟩ := cells5 hH.out (show k + k2 < dk.size by omega)
              obtain ⟨⟨p0, p1, p2, p3, p4⟩, _⟩ := cells5 hH.out (show k + k2 - 1 < dk.size by omega)
              rw [X1] at c0 c1 c2 c3 c4
              rw [X2] at p0 p1 p2 p3 p4
              clear X1 X2
              generalize hx : d[k + k2]! = x at c0 c1 c2 c3 c4
              generalize hy : d[k + k2 - 1]! = y at p0 p1 p2 p3 p4
              obtain ⟨a, b, c, p, s⟩ := x
              obtain ⟨a', b', c', p', s'⟩ := y
              simp only at c0 c1 c2 c3 c4 p0 p1 p2 p3 p4
              have hkk2 : keepAt d (k + k2) = !(p == p') := by
                unfold keepAt
                rw [hx, hy]
                have : (k + k2 == 0) = false := by simp; omega
                rw [this, Bool.false_or]
              have KK := Lib.hid hkk2
              have XX := Lib.hid hx
              clear hx hy hkk2
              rw [show (k + k2) * 5 = k * 5 + k2 * 5 by omega] at c0 c1 c2 c3 c4
              rw [show (k + k2 - 1) * 5 = k * 5 + (k2 - 1) * 5 by omega] at p0 p1 p2 p3 p4
              have dt : decide (k2 < d.size - k) = true := by simp; omega
              have dn : k2 < d.size - k := by omega
              have z1 : IntKind.i64.wrap ((k2 : Int) - 1) = (k2 : Int) - 1 := IntWalk.i64_in _ (by omega)
              have z2 : (0 : Int) ≤ (k2 : Int) - 1 := by omega
              have z5 : (1 : Int) ≤ (k2 : Int) := by omega
              have z3 : (k2 : Int) - 1 < ((d.size - k : Nat) : Int) := by omega
              have z4 : ((k2 : Int) - 1).toNat = k2 - 1 := by omega
              by_cases hdup2 : (p == p') = true
              · go_wp2_with fail
                refine still_tail 10 (by kernel_rfl) (by kernel_rfl) ?_
                simp only [List.take_succ_cons, List.take_zero, List.drop_succ_cons, List.drop_zero]
                iterate 10 still_step
                refine wpStill_nil ?_
                clear z1 z2 z3 z4
                go_wp2_with fail
                refine (eqS true _ _ _ _ _ _ _ _ _ _ hdup2 _).mono ?_
                rintro e w2 ⟨rfl, hb2⟩
                have H2 : Hid (HoldsK Side.enc 5 w2 g 0 dk) := holdsK_below hb2 hgl2 hH.out
                have B2 : Below g w w2 := bl_at hB hgl2 hb2
                have hg2 : g < w2.heap.size := by have := hb2.size; simp at this; omega
                have S2 : Hid (CInv d (k + (k2 + 1)) kk dk) := hI.out.skip (by rw [KK.out, hdup2]; rfl)
                clear hb2 hB hH hI KK XX c0 c1 c2 c3 c4 p0 p1 p2 p3 p4 hdup2
                go_wp2_with fail
                go_roundg (d.size - (k + (k2 + 1)))
                case measure => omega
                case rel => exact ⟨kk, k2 + 1, dk, rfl, by go_num, by omega, by omega, Nat.le_refl _, by omega, B2, hg2, H2, S2⟩
              · have hdf : (p == p') = false := by simpa using hdup2
                go_wp2_with fail
                refine still_tail 10 (by kernel_rfl) (by kernel_rfl) ?_
                simp only [List.take_succ_cons, List.take_zero, List.drop_succ_cons, List.drop_zero]
                iterate 10 still_step
                refine wpStill_nil ?_
                clear z1 z2 z3 z4
                go_wp2_with fail
                refine (eqS false _ _ _ _ _ _ _ _ _ _ hdf _).mono ?_
                rintro e w2 ⟨rfl, hb2⟩
                have H2 : Hid (HoldsK Side.enc 5 w2 g 0 dk) := holdsK_below hb2 hgl2 hH.out
                have B2 : Below g w w2 := bl_at hB hgl2 hb2
                have hg2 : g < w2.heap.size := by have := hb2.size; simp at this; omega
                have S2 : Hid (CInv d (k + (k2 + 1)) (kk + 1) (dk.setIfInBounds kk ⟨a, b, c, p, s⟩)) := by
                  have := hI.out.keep hlt2 (by rw [KK.out, hdf]; rfl)
                  rw [XX.out] at this
                  exact this
                replace c0 := kc_below hb2 c0
                replace c1 := kc_below hb2 c1
                replace c2 := kc_below hb2 c2
                replace c3 := kc_below hb2 c3
                replace c4 := kc_below hb2 c4
                obtain ⟨⟨q0, q1, q2, q3, q4⟩, f0, f1, f2, f3, f4⟩ := cells5 H2.out (show kk < dk.size by omega)
                clear hb2 hB hH hI KK XX p0 p1 p2 p3 p4 hdup2 hdf
                generalize dk[kk]! = old at q0 q1 q2 q3 q4
                have H3 : Hid (HoldsK Side.enc 5 (put5 w2 g kk ⟨a, b, c, p, s⟩) g 0 (dk.setIfInBounds kk ⟨a, b, c, p, s⟩)) := holdsK_put5 H2.out (by omega) _
                have B3 : Hid (Below g w (put5 w2 g kk ⟨a, b, c, p, s⟩)) := put5_below (Nat.le_refl _) B2 kk _
                have g3 : Hid (g < (put5 w2 g kk ⟨a, b, c, p, s⟩).heap.size) := by show g < _; rw [put5_size]; exact hg2
                clear H2 B2
                go_wp2_with fail
                go_roundg (d.size - (k + (k2 + 1)))
                case measure => omega
                case rel => exact ⟨kk + 1, k2 + 1, dk.setIfInBounds kk ⟨a, b, c, p, s⟩, by go_num, by go_num, by omega, by omega, Nat.le_refl _, by omega, B3.out, g3.out, H3, S2⟩
            · have hend : k + k2 = d.size := by omega
              have dt : decide (k2 < d.size - k) = false := by simp; omega
              have dn : ¬ k2 < d.size - k := by omega
              obtain ⟨vs, hcl⟩ : ∃ vs, ∀ ty, (Builtin.clear_ #[125] ty #[.slice (some ⟨g, kk * 5, none⟩) (d.size - kk) (cap - kk)]).run Try.prog wr = .ok (.tuple #[]) (wr.setCells g (kk * 5) vs) := by
                have hcell : ∀ j, j < (d.size - kk) * 5 → (wr.cell? ⟨g, kk * 5 + j, none⟩).isSome = true ∧ wr.frozen? ⟨g, kk * 5 + j, none⟩ = false := fun j hj => by
                  have := holdsK_at hH.out (show kk + j / 5 < dk.size by omega) (show j % 5 < 5 by omega)
                  rw [show (kk + j / 5) * 5 + j % 5 = kk * 5 + j by omega] at this
                  exact ⟨by rw [this.1]; rfl, this.2⟩
                obtain ⟨vs, h⟩ := run_clear5 (P := Try.prog) wr 125 102 0 Try.underlying125 (fun _ => by kernel_rfl) g (kk * 5) (d.size - kk) (cap - kk) (by omega) (fun j hj => (hcell j hj).1) (fun j hj => (hcell j hj).2)
                exact ⟨vs, fun ty => h⟩
              have hI2 := hI.out
              rw [hend] at hI2
              have H3 : Hid (HoldsK Side.enc 5 (wr.setCells g (kk * 5) vs) g 0 (cmpL d d.size).toArray) := by
                have := holdsK_pre hH.out (m := kk) (by omega) vs
                rw [hI2.done] at this
                exact this
              have E : Hid (Cmpd g cap d w (.returned (.slice (some ⟨g, 0, none⟩) kk cap)) (wr.setCells g (kk * 5) vs)) := ⟨by rw [hI2.len], H3.out, below_setCells g (Nat.le_refl _) _ _ hB⟩
              clear hI hI2 hH hB hend H3
              go_wp2
              go_ret
              exact E.out
        · have hdf : (p == p') = false := by simpa using hdup
          go_wp2_with fail
          have w1 : IntKind.i64.wrap ((k : Int) - 1) = (k : Int) - 1 := IntWalk.i64_in _ (by omega)
          have w2 : (0 : Int) ≤ (k : Int) - 1 := by omega
          have w5 : (1 : Int) ≤ (k : Int) := by omega
          have w3 : (k : Int) - 1 < (d.size : Int) := by omega
          have w4 : ((k : Int) - 1).toNat = k - 1 := by omega
          refine still_tail 10 (by kernel_rfl) (by kernel_rfl) ?_
          simp only [List.take_succ_cons, List.take_zero, List.drop_succ_cons, List.drop_zero]
          iterate 10 still_step
          refine wpStill_nil ?_
          clear w1 w2 w3 w4
          go_wp2_with fail
          refine (eqS false _ _ _ _ _ _ _ _ _ _ hdf _).mono ?_
          rintro e w1 ⟨rfl, hb1⟩
          have H1 : Hid (HoldsK Side.enc 5 w1 g 0 d) := holdsK_below hb1 hgl hH.out
          have B1 : Below g w w1 := bl_at hB hgl hb1
          have hg1 : g < w1.heap.size := by have := hb1.size; simp at this; omega
          have S1 : Hid (∀ j, j < k + 1 → keepAt d j = true) := fun j hj => by
            by_cases e : j = k
            · rw [e, KK.out, hdf]; rfl
            · exact hK.out j (by omega)
          clear hb1 hB hH hK KK c0 c1 c2 c3 c4 p0 p1 p2 p3 p4 f0 f1 f2 f3 f4 hdup hdf
          go_wp2_with fail
          go_roundg (d.size - (k + 1))
          case measure => omega
          case rel => exact ⟨k + 1, by omega, by omega, Nat.le_refl _, by go_num, B1, hg1, H1, S1⟩
      · have : k = d.size := by omega
        subst this
        have E := Lib.hid (cmpd_none (cap := cap) hK.out hB hH.out)
        clear hH hK
        go_wp2
        go_ret
        exact E.out
end Go.Proofs.Ytoenimkgagndnaa
namespace Go.Proofs.Ytoenimkgagndnaa
set_option linter.unusedVariables false
set_option linter.unusedSimpArgs false
open Go.RowKit Go.Shelf Go.Lib Go.Sort

theorem side_info : (Try.prog.info? 102).map (fun i => (i.zero, i.size, i.bytes)) = some (some (.agg #[.int .i64 0, .int .i64 0, .int .i64 0, .int .i64 0, .int .i64 0]), 5, 40) := by kernel_rfl

/-- The sides of k stages lie in a row of the call's own. -/
def AllAt (B : Nat) (w wr : World) (l : List Side) (v : Value) : Prop :=
  ∃ g cap, v = .slice (some ⟨g, 0, none⟩) l.length cap ∧ B ≤ g ∧ g < wr.heap.size ∧ l.length ≤ cap ∧ cap ≤ maxLen ∧ HoldsK Side.enc 5 wr g 0 l.toArray ∧ Below B w wr

/-- The longer sides that have been made. -/
def AccAt (B : Nat) (w1 wr : World) (l : List Side) (v : Value) : Prop := wr.ownsRow B 102 5 v l.length (flat l) ∧ Below B w1 wr

theorem own_below {W W1 : World} {B : Nat} {e : TypeId} {v : Value} {n : Nat} {xs : List Value} (h : W.ownsRow B e 5 v n xs) (hb : Below W.heap.size W W1) : W1.ownsRow B e 5 v n xs :=
  h.kept (row := none) ⟨hb.os, hb.tape, hb.output, hb.size, fun k hk _ => hb.block k hk⟩ (by
    cases hv : v.ownBlock with
    | none => exact .inl rfl
    | some g => exact .inr (by simp))

/-- A side in a block of its own. -/
def box5 (W : World) (b : Nat) (x : Side) : Prop := W.cell? ⟨b, 0, none⟩ = some (.int .i64 x.a) ∧ W.cell? ⟨b, 1, none⟩ = some (.int .i64 x.b) ∧ W.cell? ⟨b, 2, none⟩ = some (.int .i64 x.c) ∧ W.cell? ⟨b, 3, none⟩ = some (.int .i64 x.p) ∧ W.cell? ⟨b, 4, none⟩ = some (.int .i64 x.s)
theorem box5_map {W W1 : World} {b : Nat} {x : Side} (h : box5 W b x) (hk : ∀ i v, W.cell? ⟨b, i, none⟩ = some v → W1.cell? ⟨b, i, none⟩ = some v) : box5 W1 b x :=
  ⟨hk _ _ h.1, hk _ _ h.2.1, hk _ _ h.2.2.1, hk _ _ h.2.2.2.1, hk _ _ h.2.2.2.2⟩
theorem box5_new (W : World) (x : Side) (t : TypeId) : box5 (W.alloc (.cells #[.int .i64 x.a, .int .i64 x.b, .int .i64 x.c, .int .i64 x.p, .int .i64 x.s] t)) W.heap.size x :=
  ⟨kc_new rfl rfl, kc_new rfl rfl, kc_new rfl rfl, kc_new rfl rfl, kc_new rfl rfl⟩

/-- A round of the inner loop: the row and the box. -/
structure InR (B : Nat) (w0 : World) (bx : Nat) (x : Side) (v : Value) (l : List Side) (W : World) : Prop where
  own : W.ownsRow B 102 5 v l.length (flat l)
  below : Below B w0 W
  box : box5 W bx x
  ne : v.ownBlock ≠ some bx

theorem InR.step {B : Nat} {w0 w2 w3 W : World} {bx : Nat} {x y : Side} {v v' : Value} {l : List Side} {O : Obj} (h : InR B w0 bx x v l W) (hB : B ≤ W.heap.size) (hb : Below W.heap.size W w2)
    (hown : w3.ownsRow B 102 5 v' (l.length + 1) (flat l ++ y.enc)) (hg : (w2.alloc O).grownBy w3 v.ownBlock) (hat : v'.ownBlock = v.ownBlock ∨ v'.ownBlock = some (w2.alloc O).heap.size) : InR B w0 bx x v' (l ++ [y]) w3 := by
  have hbx : bx < W.heap.size := World.block_lt_of_cell? W _ h.box.1
  have hs := hb.size
  refine ⟨?_, ?_, ?_, ?_⟩
  · rw [flat_snoc, List.length_append]; exact hown
  · refine (((h.below.trans (hb.mono hB)).alloc (by omega) O)).grown hg (by rw [World.size_alloc]; omega) (fun k hk => ?_)
    exact (h.own.lt k hk).1
  · refine box5_map h.box fun i u hu => ?_
    exact hg.cell (kc_alloc O (kc_below hb hu)) (fun e => h.ne e.symm)
  · rcases hat with e | e <;> rw [e]
    · exact h.ne
    · rw [World.size_alloc]
      intro e
      injection e with e
      omega

theorem sortWorld_below (W : World) (B g n : Nat) (D : Array Side) (os : Array Obj) (hB : B ≤ g) (hg : g < W.heap.size) : Below B W (sortWorldK Side.enc 5 W g 0 n D os) := by
  refine ⟨rfl, rfl, rfl, size_sortWorldK_c Side.enc 5 W g 0 n D os, fun k hk => ?_⟩
  unfold sortWorldK putRowK putRow mapBlock
  rw [heap_grow_old _ _ (by simp [ahead]; omega)]
  simp only [ahead, Array.getElem?_modify]
  rw [if_neg (by omega)]
  rfl

/-- The sides in order. -/
def srt (l : List Side) : List Side := l.mergeSort fun x y => !(ltOf cmpS) y x
theorem srt_len (l : List Side) : (srt l).length = l.length := List.length_mergeSort l

theorem sort_any (g cap : Nat) (l : List Side) (W : World) (hH : HoldsK Side.enc 5 W g 0 l.toArray) (hg : g < W.heap.size) (hl : l.length ≤ 1048576) :
    Calls Try.prog 121 #[.slice (some ⟨g, 0, none⟩) l.length cap, .func (.func 122) #[] #[]] W fun e w' =>
      e = .returned (.tuple #[]) ∧ HoldsK Side.enc 5 w' g 0 (srt l).toArray ∧ Below g W w' := by
  have eg : ∀ args w, (callFunc 122 args).run Try.prog w = .ok (.enter 122 args) w := enters_of Try.func122 (by kernel_rfl) rfl
  have hcon := AnyQ.slices_SortFunc_total Try.sortS 5 Try.isAgg102 Try.sizeOf102 Side.enc enc_len enc_one cmpS swoS 122 #[] g 0 cap l.toArray W eg (cmpLays g 0 _ W) hH hg (by simp; omega) totS
  change Calls Try.prog 121 _ _ _ at hcon
  simp only [List.size_toArray] at hcon
  refine hcon.mono fun e w' ⟨he, n, os, hw⟩ => ⟨he, ?_, ?_⟩
  · rw [hw]
    exact holdsK_sortWorldK_c Side.enc 5 W g 0 l.toArray _ n os hH hg (by simp)
  · rw [hw]
    exact sortWorld_below W g g n _ os (Nat.le_refl _) hg

/-- What gear.sides returns. -/
def sidesL (low high : Int) (stages : Nat) (r : Bool) : List Side := cmpL (srt (gen low high r stages)).toArray (gen low high r stages).length

/-- A row of sides that the call has made. -/
def RowAt (B : Nat) (w w' : World) (l : List Side) (v : Value) : Prop :=
  ∃ g cap, v = .slice (some ⟨g, 0, none⟩) l.length cap ∧ B ≤ g ∧ g < w'.heap.size ∧ HoldsK Side.enc 5 w' g 0 l.toArray ∧ Below B w w'
def SidesPost (low high : Int) (stages : Nat) (r : Bool) (w : World) (e : Ending) (w' : World) : Prop := ∃ v, e = .returned v ∧ RowAt w.heap.size w w' (sidesL low high stages r) v

theorem cells_new (W : World) (l : List Value) (t : TypeId) : ∀ (j : Nat) (u : Value), l[j]? = some u → (W.alloc (.cells l.toArray t)).cell? ((⟨W.heap.size, 0, none⟩ : Addr).add j) = some u := by
  intro j u h
  have e : (⟨W.heap.size, 0, none⟩ : Addr).add j = ⟨W.heap.size, j, none⟩ := by unfold Addr.add; split <;> simp_all
  rw [e]
  exact kc_new rfl (by simpa using h)
theorem one5 (a b c p s : Int) : ∀ u ∈ [Value.int .i64 a, .int .i64 b, .int .i64 c, .int .i64 p, .int .i64 s], u.oneCell' = true := by
  intro u hu
  simp at hu
  rcases hu with rfl | rfl | rfl | rfl | rfl <;> rfl

theorem accAt_nil (w : World) : AccAt w.heap.size w w [] (.slice none 0 0) := ⟨World.ownsRow_nil w _ _ _, Below.refl _ _⟩

set_option maxHeartbeats 4000000 in
set_option maxRecDepth 100000 in
theorem sides_any (low high : Int) (stages : Nat) (r : Bool) (w : World) (h1 : 1 ≤ low) (h2 : low ≤ high) (h3 : high ≤ 200) (h4 : high - low < 64) (hst : stages ≤ 3) :
    Calls Try.prog 105 #[.int .i64 low, .int .i64 high, .int .i64 stages, .bool r] w (SidesPost low high stages r w) := by
  obtain ⟨i0, hi0, hz0, hz1, hz2⟩ := info_parts side_info
  go_enter Try.func105, Try.ntmps105
  go_wp2_with fail
  go_loopg [9, 20] stages (fun gh s9 s20 wr => ∃ k : Nat, k ≤ stages ∧ stages - k ≤ gh ∧ s20 = .int .i64 k ∧ AllAt w.heap.size w wr (gen low high r k) s9)
  case atStart =>
    refine ⟨0, Nat.zero_le _, by omega, rfl, w.heap.size, 1, rfl, Nat.le_refl _, by simp, by simp [gen], by unfold maxLen; omega, ?_, bl_alloc (Below.refl _ _) _⟩
    refine holdsK_mk fun i hi c hc => ?_
    obtain rfl : i = 0 := by simp [gen] at hi; omega
    refine ⟨?_, kf_new rfl _⟩
    rcases (show c = 0 ∨ c = 1 ∨ c = 2 ∨ c = 3 ∨ c = 4 by omega) with rfl | rfl | rfl | rfl | rfl <;> exact kc_new rfl rfl
  case round =>
    obtain ⟨k, hk, hgh, rfl, g, cap, rfl, hgB, hgl, hlc, hcm, hH, hB⟩ := hrel
    have hgen := gen_len (r := r) h2 h1 h3 h4 k (by omega)
    have hgood := fun j => gen_good (r := r) h2 h1 h3 k (by omega)
    by_cases hlt : k < stages
    · obtain ⟨wo, rfl⟩ : ∃ wo : World, wo = wr := ⟨_, rfl⟩
      have hal := fun j => accTo_len (r := r) h2 h1 h3 h4 k j (by omega)
      have hae := accTo_end low high r k
      have has := accTo_succ low high r k
      have HG : Hid (∀ x ∈ gen low high r k, Good low high k x) := gen_good (r := r) h2 h1 h3 k (by omega)
      have HH := Lib.hid hH
      have HAL := Lib.hid hal
      have HAE := Lib.hid hae
      have HAS := Lib.hid has
      have HL : Hid ((gen low high r k).length ≤ 64 ^ k ∧ 1 ≤ (gen low high r k).length) := hgen
      have hl4 : (gen low high r k).length ≤ 4096 := by
        have : 64 ^ k ≤ 64 ^ 2 := Nat.pow_le_pow_right (by omega) (by omega)
        omega
      clear hH hal hae has hgen hgood
      generalize gen low high r k = l at *
      go_wp2_with fail
      go_loopg [11, 25] l.length (fun gh s11 s25 wr => ∃ j : Nat, j ≤ l.length ∧ l.length - j ≤ gh ∧ s25 = .int .i64 j ∧ AccAt wo.heap.size wo wr (accTo low high r k j) s11)
      case atStart => exact ⟨0, Nat.zero_le _, by omega, rfl, by rw [accTo_zero]; exact accAt_nil wo⟩
      case round =>
        obtain ⟨j, hj, hgj, rfl, hown, hbw⟩ := hrel
        by_cases hjl : j < l.length
        · have hx := HG.out l[j] (List.getElem_mem hjl)
          have hc5 := (cells5 HH.out (show j < l.toArray.size by simpa using hjl)).1
          have ex : l.toArray[j]! = l[j] := by rw [getElem!_pos _ j (by simpa using hjl)]; simp
          rw [ex] at hc5
          have HA2 := Lib.hid (HAS.out j hjl)
          generalize l[j] = x at *
          obtain ⟨c0, c1, c2, c3, c4⟩ := hc5
          replace c0 := (hbw.cell (p := ⟨g, j * 5, none⟩) hgl).trans c0
          replace c1 := (hbw.cell (p := ⟨g, j * 5 + 1, none⟩) hgl).trans c1
          replace c2 := (hbw.cell (p := ⟨g, j * 5 + 2, none⟩) hgl).trans c2
          replace c3 := (hbw.cell (p := ⟨g, j * 5 + 3, none⟩) hgl).trans c3
          replace c4 := (hbw.cell (p := ⟨g, j * 5 + 4, none⟩) hgl).trans c4
          have hft := from_to (r := r) hx h2
          have HX := Lib.hid hx
          have HF : Hid (fromOf low r k x = fromOf low r k x) := rfl
          clear hx ex
          go_upto_block 4 with fail
          go_cut [14, 15] (fun s14 s15 wx => s14 = .int .i64 (fromOf low r k x) ∧ s15 = .int .i64 (toOf high r k x) ∧ wx = wr.alloc (.cells #[.int .i64 x.a, .int .i64 x.b, .int .i64 x.c, .int .i64 x.p, .int .i64 x.s] 102))
          case first =>
            rcases (show k = 0 ∨ k = 1 ∨ k = 2 by omega) with hk0 | hk0 | hk0
            · subst hk0
              clear HA2 HX HF HL HAL HAE HAS HG HH c0 c1 c2 c3 c4 hft hown hbw
              go_wp2_with fail
              go_meet
              exact ⟨by simp [fromOf], by simp [toOf], rfl⟩
            · subst hk0
              clear HA2 HX HF HL HAL HAE HAS HG HH c0 c1 c2 c3 c4 hft hown hbw
              cases r
              all_goals
                go_wp2_with fail
                go_meet
                exact ⟨by simp [fromOf, Side.tooth], by simp [toOf, Side.tooth], rfl⟩
            · subst hk0
              clear HA2 HX HF HL HAL HAE HAS HG HH c0 c1 c2 c3 c4 hft hown hbw
              cases r
              all_goals
                go_wp2_with fail
                go_meet
                exact ⟨by simp [fromOf, Side.tooth], by simp [toOf, Side.tooth], rfl⟩
          case rest =>
            obtain ⟨rfl, rfl, rfl⟩ := hcut
            obtain ⟨f1, f2, f3, f4, f5⟩ := hft
            have hN : Hid (ext low high r k x = extTo low r k x (toOf high r k x - fromOf low r k x + 1).toNat) := rfl
            have HE := fun n => Lib.hid (extTo_succ low r k x n)
            have I0 : InR wo.heap.size wo wr.heap.size x u11 (accTo low high r k j ++ extTo low r k x 0) (wr.alloc (.cells #[.int .i64 x.a, .int .i64 x.b, .int .i64 x.c, .int .i64 x.p, .int .i64 x.s] 102)) := by
              have e0 : accTo low high r k j ++ extTo low r k x 0 = accTo low high r k j := by simp [extTo]
              rw [e0]
              exact ⟨hown.alloc _, hbw.alloc hbw.size _, box5_new _ _ _, fun e => by have := (hown.lt _ e).2; omega⟩
            have hlen0 := HAL.out j
            have hbz := hbw.size
            have hbx : wr.heap.size = wr.heap.size := rfl
            have hps : 0 ≤ x.p ∧ x.p ≤ 40000 ∧ 0 ≤ x.s ∧ x.s ≤ 400 := by
              obtain ⟨_, g1, g2, g3, g4⟩ := HX.out
              rcases (show k = 0 ∨ k = 1 ∨ k = 2 by omega) with rfl | rfl | rfl <;> simp at g2 g4 <;> omega
            have hws : Hid (wo.heap.size ≤ (wr.alloc (.cells #[.int .i64 x.a, .int .i64 x.b, .int .i64 x.c, .int .i64 x.p, .int .i64 x.s] 102)).heap.size) := by
              show _ ≤ _
              rw [World.size_alloc]; omega
            generalize hF : fromOf low r k x = F at *
            generalize hT : toOf high r k x = T at *
            clear hown hbw c0 c1 c2 c3 c4 hF hT hbx
            generalize accTo low high r k j = A at *
            generalize wr.heap.size = bx at *
            go_wp2_with fail
            go_loopg [11, 16] (T - F + 1).toNat (fun gh s11 s16 wx => ∃ n : Nat, n ≤ (T - F + 1).toNat ∧ (T - F + 1).toNat - n ≤ gh ∧ s16 = .int .i64 (F + n) ∧ wo.heap.size ≤ wx.heap.size ∧ InR wo.heap.size wo bx x s11 (A ++ extTo low r k x n) wx)
            case atStart => exact ⟨0, Nat.zero_le _, by omega, by simp, hws.out, I0⟩
            case round =>
              clear I0
              obtain ⟨n, hn, hgn, rfl, hwx, hI⟩ := hrel
              have hlt2 : (A ++ extTo low r k x n).length ≤ 1048000 := by
                simp only [List.length_append, extTo, List.length_map, List.length_range]
                omega
              obtain ⟨b0, b1, b2, b3, b4⟩ := hI.box
              by_cases hnt : n < (T - F + 1).toNat
              · obtain ⟨p1, p2, p3, p4⟩ := hps
                have hwith := with_any x k (F + n)
                go_wp2_with fail
                refine (hwith _ (by omega) (by omega) (by omega) p1 p2 p3 p4).mono ?_
                rintro e w2 ⟨rfl, hb2⟩
                have hown2 := own_below hI.own hb2
                have I1 := fun v' w3 O => hI.step (y := x.with k (F + n)) (v' := v') (w3 := w3) (O := O) hwx hb2
                have hw2s : wo.heap.size ≤ w2.heap.size := Nat.le_trans hwx hb2.size
                have E1 := HE n
                clear hI hb2 hwith HE hlen0 HAL HAE HAS HA2 HX HG HH HL
                generalize x.with k (F + n) = y at *
                generalize hXn : extTo low r k x n = Xn at *
                generalize hYl : A ++ Xn = Y at *
                have hY1 : Hid (A ++ extTo low r k x (n + 1) = Y ++ [y]) := by
                  show _ = _
                  rw [E1.out, ← List.append_assoc, hYl]
                clear hXn hYl E1
                obtain ⟨ya, yb, yc, yp, ys⟩ := y
                simp only [Side.val] at *
                have IH := fun v' w3 O => Lib.hid (I1 v' w3 O)
                clear I1
                have q1 := cells_new w2 [.int .i64 ya, .int .i64 yb, .int .i64 yc, .int .i64 yp, .int .i64 ys] 102
                have q2 := one5 ya yb yc yp ys
                have q3 : Y.length + 1 ≤ maxLen := by unfold maxLen; omega
                have q4 : (Y.length + 1) * 40 ≤ 140737488355328 := by omega
                have q5 : wo.heap.size ≤ (w2.alloc (.cells #[.int .i64 ya, .int .i64 yb, .int .i64 yc, .int .i64 yp, .int .i64 ys] 102)).heap.size := by rw [World.size_alloc]; omega
                have Q1 := Lib.hid q1
                have Q2 := Lib.hid q2
                have Q3 := Lib.hid q3
                have Q5 := Lib.hid q5
                clear q1 q2 q3 q5
                go_wp2_with (at_builtin; refine wpList_append_own_at _ rfl _ _ 125 rfl wo.heap.size 102 i0 _ 5 40 Try.underlying125 hi0 hz0 hz1 hz2 rfl (by decide) _ _ _ rfl (hown2.alloc _) ⟨w2.heap.size, 0, none⟩ 1 1 [.int .i64 ya, .int .i64 yb, .int .i64 yc, .int .i64 yp, .int .i64 ys] rfl rfl Q1.out Q2.out Q3.out q4 Q5.out ?_; intro v3 w3 hown3 hg3 _ hat3)
                have I3 := (IH _ _ _).out hown3 hg3 hat3
                have hw3s : wo.heap.size ≤ w3.heap.size := by have := hg3.size; rw [World.size_alloc] at this; omega
                clear IH hown3 hg3 hat3 hown2 Q1 Q2 Q3 q4 Q5
                go_wp2_with fail
                go_roundg ((T - F + 1).toNat - (n + 1))
                case measure => omega
                case rel => exact ⟨n + 1, by omega, Nat.le_refl _, by go_num, hw3s, by rw [hY1.out]; exact I3⟩
              · have hnN : n = (T - F + 1).toNat := by omega
                have R1 : Hid (AccAt wo.heap.size wo wr (accTo low high r k (j + 1)) u11) := by
                  show AccAt _ _ _ _ _
                  rw [HA2.out, hN.out, ← hnN]
                  exact ⟨hI.own, hI.below⟩
                clear hI hnN HE hlen0 HAL HAE HAS HA2 HX HG HH HL b0 b1 b2 b3 b4
                go_wp2_with fail
                go_roundg (l.length - (j + 1))
                case measure => omega
                case rel => exact ⟨j + 1, by omega, Nat.le_refl _, by go_num, R1⟩
        · have hjl2 : j = l.length := by omega
          subst hjl2
          have hown2 := hown
          have hbw2 := hbw
          rw [HAE.out] at hown2
          have R2 : Hid (AllAt w.heap.size w wr (gen low high r (k + 1)) u11) := by
            have hgl2 := gen_len (r := r) h2 h1 h3 h4 (k + 1) (by omega)
            obtain ⟨g2, cap2, hv, hb2, hg2, hc2, hm2, hH2⟩ := holds_of_own hown2 hgl2.2
            exact ⟨g2, cap2, hv, by have := hB.size; omega, hg2, hc2, hm2, hH2, hB.trans (hbw2.mono hB.size)⟩
          clear hown hbw hown2 hbw2 HAL HAE HAS HG HH HL
          go_wp2_with fail
          go_roundg (stages - (k + 1))
          case measure => omega
          case rel => exact ⟨k + 1, by omega, Nat.le_refl _, by go_num, R2⟩
    · have hks : k = stages := by omega
      subst hks
      have hl4 : (gen low high r k).length ≤ 1048576 := by
        have : 64 ^ k ≤ 64 ^ 3 := Nat.pow_le_pow_right (by omega) hst
        omega
      have hsort := fun W => sort_any g cap (gen low high r k) W
      have hcomp := fun W => compact_any g cap (srt (gen low high r k)).toArray W
      have hsl := srt_len (gen low high r k)
      have HS := Lib.hid (show sidesL low high k r = cmpL (srt (gen low high r k)).toArray (srt (gen low high r k)).toArray.size by unfold sidesL; simp [hsl])
      simp only [List.size_toArray, hsl] at hcomp
      have HC := Lib.hid hcomp
      have HO := Lib.hid hsort
      have HSL := Lib.hid hsl
      have HH := Lib.hid hH
      clear hcomp hsort hgen hgood hsl hH
      generalize gen low high r k = l at *
      go_wp2_with fail
      refine (HO.out _ HH.out hgl hl4).mono ?_
      rintro e w1 ⟨rfl, hH1, hb1⟩
      have hg1 : g < w1.heap.size := by have := hb1.size; omega
      go_wp2_with fail
      refine (HC.out _ hH1 hg1 hl4 hlc hcm).mono ?_
      rintro e w2 ⟨rfl, hH2, hb2⟩
      have hg2 : g < w2.heap.size := by have := hb2.size; omega
      have R3 : Hid (SidesPost low high k r w (.returned (.slice (some ⟨g, 0, none⟩) (cmpL (srt l).toArray (srt l).toArray.size).length cap)) w2) :=
        ⟨_, rfl, g, cap, by rw [HS.out], hgB, hg2, by rw [HS.out]; exact hH2, (hB.trans (hb1.mono hgB)).trans (hb2.mono hgB)⟩
      clear hH1 hH2 hb1 hb2 HC HO HH
      go_wp2_with fail
      go_ret
      exact R3.out
end Go.Proofs.Ytoenimkgagndnaa
namespace Go.Proofs.Ytoenimkgagndnaa
set_option linter.unusedVariables false
set_option linter.unusedSimpArgs false
open Go.RowKit Go.Shelf Go.Lib Go.Sort

/-- What the closure of the search reads. -/
structure Seen (W : World) (bw bp bt g cap : Nat) (d : Array Side) (x : Side) (tn td : Int) : Prop where
  wheels : W.cell? ⟨bw, 0, none⟩ = some (.slice (some ⟨g, 0, none⟩) d.size cap)
  pinion : box5 W bp x
  target : fAt W bt tn td
  row : HoldsK Side.enc 5 W g 0 d
theorem Seen.below {W W1 : World} {bw bp bt g cap : Nat} {d : Array Side} {x : Side} {tn td : Int} (h : Seen W bw bp bt g cap d x tn td) (hg : g < W.heap.size) (hb : Below W.heap.size W W1) : Seen W1 bw bp bt g cap d x tn td :=
  ⟨kc_below hb h.wheels, box5_map h.pinion fun _ _ hu => kc_below hb hu, ⟨kc_below hb h.target.1, kc_below hb h.target.2⟩, holdsK_below hb hg h.row⟩

/-- The ratio of a wheel's product and a pinion's product is above the target. -/
def aboveB (d : Array Side) (p tn td : Int) (i : Nat) : Bool := decide (0 < cmpF d[i]!.p p tn td)

set_option maxHeartbeats 1000000 in
set_option maxRecDepth 100000 in
theorem closure_any (bw bp bt g cap : Nat) (d : Array Side) (x : Side) (tn td : Int) (W : World) (h : Seen W bw bp bt g cap d x tn td) (i : Nat) (hi : i < d.size) (hd : d.size ≤ 1048576)
    (hp : ∀ j, j < d.size → 1 ≤ d[j]!.p ∧ d[j]!.p ≤ 8000000) (hx : 1 ≤ x.p) (hx' : x.p ≤ 8000000) (ht : -4611686018427387904 ≤ tn) (ht' : tn ≤ 4611686018427387904) (hu : 1 ≤ td) (hu' : td ≤ 4611686018427387904) :
    Calls Try.prog 107 #[.int .i64 i, .pointer (some ⟨bw, 0, none⟩), .pointer (some ⟨bp, 0, none⟩), .pointer (some ⟨bt, 0, none⟩)] W fun e w' => e = .returned (.bool (aboveB d x.p tn td i)) ∧ Gro W w' := by
  obtain ⟨hw, ⟨b0, b1, b2, b3, b4⟩, ⟨t0, t1⟩, hH⟩ := h
  obtain ⟨⟨c0, c1, c2, c3, c4⟩, _⟩ := cells5 hH hi
  obtain ⟨p1, p2⟩ := hp i hi
  have R := Lib.hid (show aboveB d x.p tn td i = decide (0 < cmpF d[i]!.p x.p tn td) from rfl)
  generalize aboveB d x.p tn td i = r at *
  generalize d[i]! = y at *
  clear hp hH
  have hin : (i : Int) < (d.size : Int) := by omega
  go_enter Try.func107, Try.ntmps107
  go_wp2
  refine still_tail 9 (by kernel_rfl) (by kernel_rfl) ?_
  simp only [List.take_succ_cons, List.take_zero, List.drop_succ_cons, List.drop_zero]
  iterate 9 still_step
  refine wpStill_nil ?_
  go_wp2_with fail
  refine (compare_any _ _ _ _ _ (by omega) (by omega) (by omega) (by omega) (by omega) (by omega) (by omega) (by omega)).mono ?_
  rintro e w1 ⟨rfl, hk⟩
  clear b0 b1 b2 b3 b4 t0 t1 c0 c1 c2 c3 c4 hw
  go_wp2_with fail
  go_ret
  exact ⟨ret_bool R.out.symm, gro_call (gro_drew (gro_refl _)) hk⟩
end Go.Proofs.Ytoenimkgagndnaa
