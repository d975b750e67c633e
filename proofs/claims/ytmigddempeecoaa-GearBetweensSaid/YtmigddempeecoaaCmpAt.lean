/- slices.Compare of three ints, at offsets 1 and 6 of a block. -/
import Derived.Test.YtmigddempeecoaaSide
namespace Go.Proofs.Ytmigddempeecoaa
set_option linter.unusedVariables false
set_option linter.unusedSimpArgs false
open Go.RowKit

set_option maxHeartbeats 2000000 in
theorem cmp3_at1 (a b c a' b' c' : Int) (g k : Nat) (w : World) (h0 : w.cell? ⟨g, 1, none⟩ = some (.int .i64 a)) (h1 : w.cell? ⟨g, 2, none⟩ = some (.int .i64 b)) (h2 : w.cell? ⟨g, 3, none⟩ = some (.int .i64 c))
    (k0 : w.cell? ⟨k, 1, none⟩ = some (.int .i64 a')) (k1 : w.cell? ⟨k, 2, none⟩ = some (.int .i64 b')) (k2 : w.cell? ⟨k, 3, none⟩ = some (.int .i64 c')) :
    Calls Try.prog 108 #[.slice (some ⟨g, 1, none⟩) 3 3, .slice (some ⟨k, 1, none⟩) 3 3] w fun e w' => e = .returned (.int .i64 (lex3 a b c a' b' c')) ∧ w = w' := by
  by_cases e1 : a = a'
  · have N1 := fun W => Lib.hid (cmpEq e1 W)
    by_cases e2 : b = b'
    · have N2 := fun W => Lib.hid (cmpEq e2 W)
      by_cases e3 : c = c'
      · have N3 := fun W => Lib.hid (cmpEq e3 W)
        have E := Lib.hid (show lex3 a b c a' b' c' = 0 by unfold lex3; rw [if_neg (by omega), if_neg (by omega), cmpZ_eq e3])
        clear e1 e2 e3
        go_enter Try.func108, Try.ntmps108
        go_wp2_with fail
        refine wp_loop_rounds 4 ?_
        rw [rounds_succ]
        go_wp2_with fail
        refine (N1 _).out.mono ?_
        rintro e w' ⟨rfl, rfl⟩
        go_wp2_with fail
        rw [rounds_succ]
        go_wp2_with fail
        refine (N2 _).out.mono ?_
        rintro e w' ⟨rfl, rfl⟩
        go_wp2_with fail
        rw [rounds_succ]
        go_wp2_with fail
        refine (N3 _).out.mono ?_
        rintro e w' ⟨rfl, rfl⟩
        go_wp2_with fail
        rw [rounds_succ]
        go_wp2_with fail
        go_ret
        exact ⟨ret_i64 E.out.symm, rfl⟩
      · obtain ⟨r, hr, hc, N3⟩ := cmpNe e3
        have E := Lib.hid (show lex3 a b c a' b' c' = r by unfold lex3; rw [if_neg (by omega), if_neg (by omega)]; exact hc.out)
        clear e1 e2 e3 hc
        go_enter Try.func108, Try.ntmps108
        go_wp2_with fail
        refine wp_loop_rounds 4 ?_
        rw [rounds_succ]
        go_wp2_with fail
        refine (N1 _).out.mono ?_
        rintro e w' ⟨rfl, rfl⟩
        go_wp2_with fail
        rw [rounds_succ]
        go_wp2_with fail
        refine (N2 _).out.mono ?_
        rintro e w' ⟨rfl, rfl⟩
        go_wp2_with fail
        rw [rounds_succ]
        go_wp2_with fail
        refine (N3 _).out.mono ?_
        rintro e w' ⟨rfl, rfl⟩
        go_wp2_with fail
        go_ret
        exact ⟨ret_i64 E.out.symm, rfl⟩
    · obtain ⟨r, hr, hc, N2⟩ := cmpNe e2
      have E := Lib.hid (show lex3 a b c a' b' c' = r by unfold lex3; rw [if_neg (by omega), if_pos e2]; exact hc.out)
      clear e1 e2 hc
      go_enter Try.func108, Try.ntmps108
      go_wp2_with fail
      refine wp_loop_rounds 4 ?_
      rw [rounds_succ]
      go_wp2_with fail
      refine (N1 _).out.mono ?_
      rintro e w' ⟨rfl, rfl⟩
      go_wp2_with fail
      rw [rounds_succ]
      go_wp2_with fail
      refine (N2 _).out.mono ?_
      rintro e w' ⟨rfl, rfl⟩
      go_wp2_with fail
      go_ret
      exact ⟨ret_i64 E.out.symm, rfl⟩
  · obtain ⟨r, hr, hc, N1⟩ := cmpNe e1
    have E := Lib.hid (show lex3 a b c a' b' c' = r by unfold lex3; rw [if_pos e1]; exact hc.out)
    clear e1 hc
    go_enter Try.func108, Try.ntmps108
    go_wp2_with fail
    refine wp_loop_rounds 4 ?_
    rw [rounds_succ]
    go_wp2_with fail
    refine (N1 _).out.mono ?_
    rintro e w' ⟨rfl, rfl⟩
    go_wp2_with fail
    go_ret
    exact ⟨ret_i64 E.out.symm, rfl⟩

set_option maxHeartbeats 2000000 in
theorem cmp3_at6 (a b c a' b' c' : Int) (g k : Nat) (w : World) (h0 : w.cell? ⟨g, 6, none⟩ = some (.int .i64 a)) (h1 : w.cell? ⟨g, 7, none⟩ = some (.int .i64 b)) (h2 : w.cell? ⟨g, 8, none⟩ = some (.int .i64 c))
    (k0 : w.cell? ⟨k, 6, none⟩ = some (.int .i64 a')) (k1 : w.cell? ⟨k, 7, none⟩ = some (.int .i64 b')) (k2 : w.cell? ⟨k, 8, none⟩ = some (.int .i64 c')) :
    Calls Try.prog 108 #[.slice (some ⟨g, 6, none⟩) 3 3, .slice (some ⟨k, 6, none⟩) 3 3] w fun e w' => e = .returned (.int .i64 (lex3 a b c a' b' c')) ∧ w = w' := by
  by_cases e1 : a = a'
  · have N1 := fun W => Lib.hid (cmpEq e1 W)
    by_cases e2 : b = b'
    · have N2 := fun W => Lib.hid (cmpEq e2 W)
      by_cases e3 : c = c'
      · have N3 := fun W => Lib.hid (cmpEq e3 W)
        have E := Lib.hid (show lex3 a b c a' b' c' = 0 by unfold lex3; rw [if_neg (by omega), if_neg (by omega), cmpZ_eq e3])
        clear e1 e2 e3
        go_enter Try.func108, Try.ntmps108
        go_wp2_with fail
        refine wp_loop_rounds 4 ?_
        rw [rounds_succ]
        go_wp2_with fail
        refine (N1 _).out.mono ?_
        rintro e w' ⟨rfl, rfl⟩
        go_wp2_with fail
        rw [rounds_succ]
        go_wp2_with fail
        refine (N2 _).out.mono ?_
        rintro e w' ⟨rfl, rfl⟩
        go_wp2_with fail
        rw [rounds_succ]
        go_wp2_with fail
        refine (N3 _).out.mono ?_
        rintro e w' ⟨rfl, rfl⟩
        go_wp2_with fail
        rw [rounds_succ]
        go_wp2_with fail
        go_ret
        exact ⟨ret_i64 E.out.symm, rfl⟩
      · obtain ⟨r, hr, hc, N3⟩ := cmpNe e3
        have E := Lib.hid (show lex3 a b c a' b' c' = r by unfold lex3; rw [if_neg (by omega), if_neg (by omega)]; exact hc.out)
        clear e1 e2 e3 hc
        go_enter Try.func108, Try.ntmps108
        go_wp2_with fail
        refine wp_loop_rounds 4 ?_
        rw [rounds_succ]
        go_wp2_with fail
        refine (N1 _).out.mono ?_
        rintro e w' ⟨rfl, rfl⟩
        go_wp2_with fail
        rw [rounds_succ]
        go_wp2_with fail
        refine (N2 _).out.mono ?_
        rintro e w' ⟨rfl, rfl⟩
        go_wp2_with fail
        rw [rounds_succ]
        go_wp2_with fail
        refine (N3 _).out.mono ?_
        rintro e w' ⟨rfl, rfl⟩
        go_wp2_with fail
        go_ret
        exact ⟨ret_i64 E.out.symm, rfl⟩
    · obtain ⟨r, hr, hc, N2⟩ := cmpNe e2
      have E := Lib.hid (show lex3 a b c a' b' c' = r by unfold lex3; rw [if_neg (by omega), if_pos e2]; exact hc.out)
      clear e1 e2 hc
      go_enter Try.func108, Try.ntmps108
      go_wp2_with fail
      refine wp_loop_rounds 4 ?_
      rw [rounds_succ]
      go_wp2_with fail
      refine (N1 _).out.mono ?_
      rintro e w' ⟨rfl, rfl⟩
      go_wp2_with fail
      rw [rounds_succ]
      go_wp2_with fail
      refine (N2 _).out.mono ?_
      rintro e w' ⟨rfl, rfl⟩
      go_wp2_with fail
      go_ret
      exact ⟨ret_i64 E.out.symm, rfl⟩
  · obtain ⟨r, hr, hc, N1⟩ := cmpNe e1
    have E := Lib.hid (show lex3 a b c a' b' c' = r by unfold lex3; rw [if_pos e1]; exact hc.out)
    clear e1 hc
    go_enter Try.func108, Try.ntmps108
    go_wp2_with fail
    refine wp_loop_rounds 4 ?_
    rw [rounds_succ]
    go_wp2_with fail
    refine (N1 _).out.mono ?_
    rintro e w' ⟨rfl, rfl⟩
    go_wp2_with fail
    go_ret
    exact ⟨ret_i64 E.out.symm, rfl⟩

end Go.Proofs.Ytmigddempeecoaa
