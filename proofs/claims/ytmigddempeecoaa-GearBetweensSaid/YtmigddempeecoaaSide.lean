/- Walks of package gear on sides: with, compareSides, sides$1. -/
import Derived.Test.YtmigddempeecoaaNum
namespace Go.Proofs.Ytmigddempeecoaa
set_option linter.unusedVariables false
set_option linter.unusedSimpArgs false
open Go.RowKit Go.Shelf Go.Lib Go.Sort

/-- A side's cells. -/
structure Side where
  a : Int
  b : Int
  c : Int
  p : Int
  s : Int
deriving DecidableEq, Inhabited

def Side.enc (x : Side) : List Value := [.int .i64 x.a, .int .i64 x.b, .int .i64 x.c, .int .i64 x.p, .int .i64 x.s]
def Side.val (x : Side) : Value := .agg #[.int .i64 x.a, .int .i64 x.b, .int .i64 x.c, .int .i64 x.p, .int .i64 x.s]

set_option maxHeartbeats 400000 in
theorem eqSides_any (a b c p s a' b' c' p' s' : Int) (w : World) :
    Calls Try.prog 124 #[.agg #[.int .i64 a, .int .i64 b, .int .i64 c, .int .i64 p, .int .i64 s], .agg #[.int .i64 a', .int .i64 b', .int .i64 c', .int .i64 p', .int .i64 s']] w fun e w' =>
      e = .returned (.bool (p == p')) ∧ ∃ q os', w' = grow (w.drewN q) os' := by
  go_enter Try.func124, Try.ntmps124
  go_wp2
  go_ret
  exact ⟨rfl, 0, _, by rw [alloc_eq_grow, alloc_eq_grow, grow_grow]; rfl⟩

/-- with: one more number of teeth. -/
def Side.with (x : Side) (i : Nat) (k : Int) : Side :=
  { a := if i = 0 then k else x.a, b := if i = 1 then k else x.b, c := if i = 2 then k else x.c, p := x.p * k, s := x.s + k }

set_option maxHeartbeats 400000 in
theorem with_any (x : Side) (i : Nat) (k : Int) (w : World) (hi : i < 3) (hk : 1 ≤ k) (hk' : k ≤ 200) (hp : 0 ≤ x.p) (hp' : x.p ≤ 40000) (hs : 0 ≤ x.s) (hs' : x.s ≤ 400) :
    Calls Try.prog 120 #[.agg #[.int .i64 x.a, .int .i64 x.b, .int .i64 x.c, .int .i64 x.p, .int .i64 x.s], .int .i64 i, .int .i64 k] w fun e w' => e = .returned (x.with i k).val ∧ Below w.heap.size w w' := by
  have hpk : 0 ≤ x.p * k ∧ x.p * k ≤ 8000000 := ⟨Int.mul_nonneg hp (by omega), by have := Int.mul_le_mul hp' hk' (by omega) (by omega : (0:Int) ≤ 40000); omega⟩
  have e0 : IntKind.i64.wrap (x.p * k) = x.p * k := IntWalk.i64_in _ (by omega)
  obtain ⟨a, b, c, p, s⟩ := x
  simp only at *
  rcases (show i = 0 ∨ i = 1 ∨ i = 2 by omega) with rfl | rfl | rfl
  all_goals
    go_enter Try.func120, Try.ntmps120
    go_wp2
  · exact bodyPost_ret (v := .agg #[.int .i64 k, .int .i64 b, .int .i64 c, .int .i64 (p * k), .int .i64 (s + k)]) (by simp [results, Try.results120, go_sem]) rfl ⟨rfl, bl_alloc (bl_alloc (Below.refl _ _) _) _⟩
  · exact bodyPost_ret (v := .agg #[.int .i64 a, .int .i64 k, .int .i64 c, .int .i64 (p * k), .int .i64 (s + k)]) (by simp [results, Try.results120, go_sem]) rfl ⟨rfl, bl_alloc (bl_alloc (Below.refl _ _) _) _⟩
  · exact bodyPost_ret (v := .agg #[.int .i64 a, .int .i64 b, .int .i64 k, .int .i64 (p * k), .int .i64 (s + k)]) (by simp [results, Try.results120, go_sem]) rfl ⟨rfl, bl_alloc (bl_alloc (Below.refl _ _) _) _⟩

/-- Three numbers compared lexicographically. -/
def lex3 (a b c a' b' c' : Int) : Int := if a ≠ a' then cmpZ a a' else if b ≠ b' then cmpZ b b' else cmpZ c c'

theorem cmpZ_ne {a b : Int} (h : a ≠ b) : cmpZ a b ≠ 0 := by unfold cmpZ; split <;> (try split) <;> omega

theorem cmpEq {a b : Int} (h : a = b) (W : World) : Calls Try.prog 94 #[.int .i64 a, .int .i64 b] W fun e w' => e = .returned (.int .i64 0) ∧ W = w' := by
  have := cmpI_any a b W
  rwa [cmpZ_eq h] at this
theorem cmpNe {a b : Int} (h : a ≠ b) : ∃ r : Int, (r != 0) = true ∧ Hid (cmpZ a b = r) ∧ ∀ W, Hid (Calls Try.prog 94 #[.int .i64 a, .int .i64 b] W fun e w' => e = .returned (.int .i64 r) ∧ W = w') :=
  ⟨cmpZ a b, by simpa using cmpZ_ne h, rfl, fun W => Lib.hid (cmpI_any a b W)⟩

set_option maxHeartbeats 2000000 in
theorem cmp3_any (a b c a' b' c' : Int) (g k : Nat) (w : World) (h0 : w.cell? ⟨g, 0, none⟩ = some (.int .i64 a)) (h1 : w.cell? ⟨g, 1, none⟩ = some (.int .i64 b)) (h2 : w.cell? ⟨g, 2, none⟩ = some (.int .i64 c))
    (k0 : w.cell? ⟨k, 0, none⟩ = some (.int .i64 a')) (k1 : w.cell? ⟨k, 1, none⟩ = some (.int .i64 b')) (k2 : w.cell? ⟨k, 2, none⟩ = some (.int .i64 c')) :
    Calls Try.prog 108 #[.slice (some ⟨g, 0, none⟩) 3 3, .slice (some ⟨k, 0, none⟩) 3 3] w fun e w' => e = .returned (.int .i64 (lex3 a b c a' b' c')) ∧ w = w' := by
  by_cases e1 : a = a'
  · have N1 := fun W => Lib.hid (cmpEq e1 W)
    by_cases e2 : b = b'
    · have N2 := fun W => Lib.hid (cmpEq e2 W)
      by_cases e3 : c = c'
      · have N3 := fun W => Lib.hid (cmpEq e3 W)
        have E := Lib.hid (show lex3 a b c a' b' c' = 0 by unfold lex3; rw [if_neg (by omega), if_neg (by omega), cmpZ_eq e3])
        clear e1 e2 e3
        go_enter Try.func108, Try.ntmps108
        go_wp2_with fail
        refine wp_loop_rounds 4 ?_
        rw [rounds_succ]
        go_wp2_with fail
        refine (N1 _).out.mono ?_
        rintro e w' ⟨rfl, rfl⟩
        go_wp2_with fail
        rw [rounds_succ]
        go_wp2_with fail
        refine (N2 _).out.mono ?_
        rintro e w' ⟨rfl, rfl⟩
        go_wp2_with fail
        rw [rounds_succ]
        go_wp2_with fail
        refine (N3 _).out.mono ?_
        rintro e w' ⟨rfl, rfl⟩
        go_wp2_with fail
        rw [rounds_succ]
        go_wp2_with fail
        go_ret
        exact ⟨ret_i64 E.out.symm, rfl⟩
      · obtain ⟨r, hr, hc, N3⟩ := cmpNe e3
        have E := Lib.hid (show lex3 a b c a' b' c' = r by unfold lex3; rw [if_neg (by omega), if_neg (by omega)]; exact hc.out)
        clear e1 e2 e3 hc
        go_enter Try.func108, Try.ntmps108
        go_wp2_with fail
        refine wp_loop_rounds 4 ?_
        rw [rounds_succ]
        go_wp2_with fail
        refine (N1 _).out.mono ?_
        rintro e w' ⟨rfl, rfl⟩
        go_wp2_with fail
        rw [rounds_succ]
        go_wp2_with fail
        refine (N2 _).out.mono ?_
        rintro e w' ⟨rfl, rfl⟩
        go_wp2_with fail
        rw [rounds_succ]
        go_wp2_with fail
        refine (N3 _).out.mono ?_
        rintro e w' ⟨rfl, rfl⟩
        go_wp2_with fail
        go_ret
        exact ⟨ret_i64 E.out.symm, rfl⟩
    · obtain ⟨r, hr, hc, N2⟩ := cmpNe e2
      have E := Lib.hid (show lex3 a b c a' b' c' = r by unfold lex3; rw [if_neg (by omega), if_pos e2]; exact hc.out)
      clear e1 e2 hc
      go_enter Try.func108, Try.ntmps108
      go_wp2_with fail
      refine wp_loop_rounds 4 ?_
      rw [rounds_succ]
      go_wp2_with fail
      refine (N1 _).out.mono ?_
      rintro e w' ⟨rfl, rfl⟩
      go_wp2_with fail
      rw [rounds_succ]
      go_wp2_with fail
      refine (N2 _).out.mono ?_
      rintro e w' ⟨rfl, rfl⟩
      go_wp2_with fail
      go_ret
      exact ⟨ret_i64 E.out.symm, rfl⟩
  · obtain ⟨r, hr, hc, N1⟩ := cmpNe e1
    have E := Lib.hid (show lex3 a b c a' b' c' = r by unfold lex3; rw [if_pos e1]; exact hc.out)
    clear e1 hc
    go_enter Try.func108, Try.ntmps108
    go_wp2_with fail
    refine wp_loop_rounds 4 ?_
    rw [rounds_succ]
    go_wp2_with fail
    refine (N1 _).out.mono ?_
    rintro e w' ⟨rfl, rfl⟩
    go_wp2_with fail
    go_ret
    exact ⟨ret_i64 E.out.symm, rfl⟩

/-- What compareSides returns. -/
def cmpS (x y : Side) : Int := if x.p ≠ y.p then cmpZ x.p y.p else if x.s ≠ y.s then cmpZ x.s y.s else lex3 x.a x.b x.c y.a y.b y.c

set_option maxHeartbeats 2000000 in
theorem cmpSides_any (x y : Side) (w : World) :
    Calls Try.prog 122 #[.agg #[.int .i64 x.a, .int .i64 x.b, .int .i64 x.c, .int .i64 x.p, .int .i64 x.s], .agg #[.int .i64 y.a, .int .i64 y.b, .int .i64 y.c, .int .i64 y.p, .int .i64 y.s]] w fun e w' =>
      e = .returned (.int .i64 (cmpS x y)) ∧ ∃ q os', w' = grow (w.drewN q) os' := by
  obtain ⟨a, b, c, p, s⟩ := x
  obtain ⟨a', b', c', p', s'⟩ := y
  simp only at *
  by_cases e1 : p = p'
  · have t1 : (p != p') = false := by simpa using e1
    by_cases e2 : s = s'
    · have t2 : (s != s') = false := by simpa using e2
      have E := Lib.hid (show cmpS ⟨a, b, c, p, s⟩ ⟨a', b', c', p', s'⟩ = lex3 a b c a' b' c' by unfold cmpS; rw [if_neg (by simpa using e1), if_neg (by simpa using e2)])
      have hc := fun (W : World) g k h0 h1 h2 k0 k1 k2 => Lib.hid (cmp3_any a b c a' b' c' g k W h0 h1 h2 k0 k1 k2)
      generalize lex3 a b c a' b' c' = r at *
      generalize cmpS ⟨a, b, c, p, s⟩ ⟨a', b', c', p', s'⟩ = r' at *
      clear e1 e2
      go_enter Try.func122, Try.ntmps122
      go_wp2_with fail
      go_quiet ((go_at_call 108; refine qt_same (hc _ _ _ ?_ ?_ ?_ ?_ ?_ ?_).out <;> simp))
      go_wp2
      go_ret
      exact ⟨ret_i64 E.out.symm, _, _, by rw [alloc_eq_grow, alloc_eq_grow, grow_grow]; rfl⟩
    · have t2 : (s != s') = true := by simpa using e2
      obtain ⟨r, hr, hc, N1⟩ := cmpNe e2
      have E := Lib.hid (show cmpS ⟨a, b, c, p, s⟩ ⟨a', b', c', p', s'⟩ = r by unfold cmpS; rw [if_neg (by simpa using e1), if_pos (by simpa using e2)]; exact hc.out)
      clear e1 e2 hc
      generalize cmpS ⟨a, b, c, p, s⟩ ⟨a', b', c', p', s'⟩ = r' at *
      go_enter Try.func122, Try.ntmps122
      go_wp2_with fail
      refine (N1 _).out.mono ?_
      rintro e w' ⟨rfl, rfl⟩
      go_wp2_with fail
      go_ret
      exact ⟨ret_i64 E.out.symm, 0, _, by rw [alloc_eq_grow, alloc_eq_grow, grow_grow]; rfl⟩
  · have t1 : (p != p') = true := by simpa using e1
    obtain ⟨r, hr, hc, N1⟩ := cmpNe e1
    have E := Lib.hid (show cmpS ⟨a, b, c, p, s⟩ ⟨a', b', c', p', s'⟩ = r by unfold cmpS; rw [if_pos (by simpa using e1)]; exact hc.out)
    clear e1 hc
    generalize cmpS ⟨a, b, c, p, s⟩ ⟨a', b', c', p', s'⟩ = r' at *
    go_enter Try.func122, Try.ntmps122
    go_wp2_with fail
    refine (N1 _).out.mono ?_
    rintro e w' ⟨rfl, rfl⟩
    go_wp2_with fail
    go_ret
    exact ⟨ret_i64 E.out.symm, 0, _, by rw [alloc_eq_grow, alloc_eq_grow, grow_grow]; rfl⟩

/-! ### The order of the sides -/
theorem cmpZ_cases (a b : Int) : (cmpZ a b = -1 ∧ a < b) ∨ (cmpZ a b = 0 ∧ a = b) ∨ (cmpZ a b = 1 ∧ b < a) := by
  unfold cmpZ; split
  · exact .inl ⟨rfl, by assumption⟩
  · split
    · exact .inr (.inr ⟨rfl, by assumption⟩)
    · exact .inr (.inl ⟨rfl, by omega⟩)
/-- x comes ahead of y. -/
def Side.lt (x y : Side) : Prop := x.p < y.p ∨ (x.p = y.p ∧ (x.s < y.s ∨ (x.s = y.s ∧ (x.a < y.a ∨ (x.a = y.a ∧ (x.b < y.b ∨ (x.b = y.b ∧ x.c < y.c)))))))
theorem cmpS_lt (x y : Side) : cmpS x y < 0 ↔ x.lt y := by
  unfold cmpS lex3 Side.lt
  have h1 := cmpZ_cases x.p y.p
  have h2 := cmpZ_cases x.s y.s
  have h3 := cmpZ_cases x.a y.a
  have h4 := cmpZ_cases x.b y.b
  have h5 := cmpZ_cases x.c y.c
  split
  · omega
  · split
    · omega
    · split
      · omega
      · split <;> omega
theorem swoS : SWO (ltOf cmpS) where
  irrefl x := by unfold ltOf; rw [decide_eq_false_iff_not, cmpS_lt]; unfold Side.lt; omega
  trans x y z h1 h2 := by unfold ltOf at *; rw [decide_eq_true_iff, cmpS_lt] at *; unfold Side.lt at *; omega
  ntrans x y z h1 h2 := by unfold ltOf at *; rw [decide_eq_false_iff_not, cmpS_lt] at *; unfold Side.lt at *; omega
theorem totS (x y : Side) (h1 : ltOf cmpS x y = false) (h2 : ltOf cmpS y x = false) : x = y := by
  unfold ltOf at *
  rw [decide_eq_false_iff_not, cmpS_lt] at h1 h2
  unfold Side.lt at *
  obtain ⟨a, b, c, p, s⟩ := x
  obtain ⟨a', b', c', p', s'⟩ := y
  simp only at *
  simp only [Side.mk.injEq]
  omega

theorem cmpLays (blk off size : Nat) (w : World) : CmpLays Try.prog 122 #[] Side.enc 5 cmpS blk off size w :=
  fun _ _ _ _ x y => cmpSides_any x y _
end Go.Proofs.Ytmigddempeecoaa
