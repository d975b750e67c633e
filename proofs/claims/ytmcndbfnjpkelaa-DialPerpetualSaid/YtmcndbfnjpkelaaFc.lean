/- Walks of the perpetual calendar: validFace of a valid face, midnights, Midnight. -/
import Derived.Test.YtmcndbfnjpkelaaFb
import Derived.Deep.LoopGhost
namespace Go.Proofs.Ytmcndbfnjpkelaa
set_option linter.unusedVariables false
set_option linter.unusedSimpArgs false
open Go.RowKit Go.Lib

set_option maxHeartbeats 1000000 in
set_option maxRecDepth 100000 in
theorem validFace_ok (d m l u o : Int) (w : World) (h : VF d m l) (hu : 0 ≤ u ∧ u ≤ 6) (ho : 0 ≤ o ∧ o ≤ 58) :
    Calls Try.prog 70 #[.agg #[.int .i64 d, .int .i64 m, .int .i64 l, .int .i64 u, .int .i64 o]] w fun e w' => e = .returned (.bool true) ∧ Gro w w' := by
  obtain ⟨⟨m1, m2⟩, ⟨l1, l2⟩, d1, d2⟩ := h
  have HL := fun W => Lib.hid (lastDay_any d m l u o W m1 m2)
  have HM := fun W => Lib.hid (validMoon_any o W)
  rw [decide_eq_true ho] at HM
  obtain ⟨u0, u1⟩ := hu
  have e6 : decide (d ≤ monD m (decide (l = 0))) = true := decide_eq_true d2
  generalize monD m (decide (l = 0)) = k at *
  have l3 : l < 4 := by omega
  have u3 : u < 7 := by omega
  clear ho
  go_enter Try.func70, Try.ntmps70
  go_wp2_with fail
  go_region_held3 (fun w' => w'.cell? ⟨w.heap.size, 0, none⟩ = some (.int .i64 d) ∧ w'.cell? ⟨w.heap.size, 1, none⟩ = some (.int .i64 m) ∧ w'.cell? ⟨w.heap.size, 2, none⟩ = some (.int .i64 l) ∧ w'.cell? ⟨w.heap.size, 3, none⟩ = some (.int .i64 u) ∧ w'.cell? ⟨w.heap.size, 4, none⟩ = some (.int .i64 o)) (((try dsimp only); (repeat' apply And.intro)) <;> (with_reducible repeat (first | exact q0 | exact q1 | exact q2 | exact q3 | exact q4 | refine kc_drew ?_ | refine kc_drewN _ ?_ | refine kc_below hb2 ?_ | (refine kc_new ?_ ?_; (focus first | rfl | (simp only [World.size_alloc, World.size_setCell, World.size_drew, size_drewN]; done)); (focus first | rfl | (simp; done))) | (refine kc_set0 ?_ ?_; (focus first | rfl | (simp; done))) | exact ct_of (by assumption) | refine ct_drew ?_ | refine ct_drewN _ ?_ | refine ct_below hb2 ?_ | (refine ct_new ?_ ?_; (focus first | rfl | (simp only [World.size_alloc, World.size_setCell, World.size_drew, size_drewN]; done)); (focus first | rfl | (simp; done))) | refine ct_set _ _ ?_ | refine ct_alloc _ ?_ | (refine kc_set ?_ ?_; (focus first | (intro hx; injection hx; omega) | (simp; done))) | refine kc_alloc _ ?_))) (first | (go_at_call 86; ((with_reducible refine (HL _).out.mono ?_); rintro v w2 ⟨rfl, hk2⟩; have hb2 := hk2.below; have ⟨q0, q1, q2, q3, q4⟩ : w2.cell? ⟨w.heap.size, 0, none⟩ = some (.int .i64 d) ∧ w2.cell? ⟨w.heap.size, 1, none⟩ = some (.int .i64 m) ∧ w2.cell? ⟨w.heap.size, 2, none⟩ = some (.int .i64 l) ∧ w2.cell? ⟨w.heap.size, 3, none⟩ = some (.int .i64 u) ∧ w2.cell? ⟨w.heap.size, 4, none⟩ = some (.int .i64 o) := (by and_intros <;> (with_reducible repeat (first | exact q0 | exact q1 | exact q2 | exact q3 | exact q4 | refine kc_drew ?_ | refine kc_drewN _ ?_ | refine kc_below hb2 ?_ | (refine kc_new ?_ ?_; (focus first | rfl | (simp only [World.size_alloc, World.size_setCell, World.size_drew, size_drewN]; done)); (focus first | rfl | (simp; done))) | (refine kc_set0 ?_ ?_; (focus first | rfl | (simp; done))) | exact ct_of (by assumption) | refine ct_drew ?_ | refine ct_drewN _ ?_ | refine ct_below hb2 ?_ | (refine ct_new ?_ ?_; (focus first | rfl | (simp only [World.size_alloc, World.size_setCell, World.size_drew, size_drewN]; done)); (focus first | rfl | (simp; done))) | refine ct_set _ _ ?_ | refine ct_alloc _ ?_ | (refine kc_set ?_ ?_; (focus first | (intro hx; injection hx; omega) | (simp; done))) | refine kc_alloc _ ?_))); have hz2 := hb2.size; (try simp only [World.size_alloc, World.size_setCell, World.size_drew, size_drewN] at hz2); have g0 : w.heap.size < w2.heap.size := (by omega); have hG : Gro w w2 := (by (with_reducible repeat (first | exact gro_refl _ | refine gro_alloc ?_ _ | refine gro_drew ?_ | refine gro_drewN ?_ _ | (refine gro_set ?_ ?_ _; (focus first | omega | (dsimp only; omega))) | refine gro_call ?_ hk2))))) | (go_at_call 68; ((with_reducible refine (HM _).out.mono ?_); rintro v w' ⟨rfl, rfl⟩)))
  all_goals go_wp2_with fail
  all_goals go_ret
  all_goals exact ⟨rfl, by (with_reducible repeat (first | exact hG | exact gro_refl _ | refine gro_alloc ?_ _ | refine gro_drew ?_ | refine gro_drewN ?_ _ | (refine gro_set ?_ ?_ _; (focus first | omega | (dsimp only; omega)))))⟩

/-- The world in a round of midnights. -/
def MidR (w : World) (d m l u o : Int) (wr : World) : Prop :=
  Gro w wr ∧ w.heap.size + 1 < wr.heap.size ∧ wr.cell? ⟨w.heap.size, 0, none⟩ = some (.int .i64 d) ∧ wr.cell? ⟨w.heap.size, 1, none⟩ = some (.int .i64 m) ∧ wr.cell? ⟨w.heap.size, 2, none⟩ = some (.int .i64 l) ∧ wr.cell? ⟨w.heap.size, 3, none⟩ = some (.int .i64 u) ∧ wr.cell? ⟨w.heap.size, 4, none⟩ = some (.int .i64 o) ∧ wr.frozen? ⟨w.heap.size, 0, none⟩ = false ∧ wr.frozen? ⟨w.heap.size, 1, none⟩ = false ∧ wr.frozen? ⟨w.heap.size, 2, none⟩ = false ∧ wr.frozen? ⟨w.heap.size, 3, none⟩ = false ∧ wr.frozen? ⟨w.heap.size, 4, none⟩ = false ∧ wr.cell? ⟨w.heap.size + 1, 0, none⟩ = some (.int .i64 0) ∧ wr.cell? ⟨w.heap.size + 1, 1, none⟩ = some (.int .i64 0) ∧ wr.cell? ⟨w.heap.size + 1, 2, none⟩ = some (.int .i64 0) ∧ wr.cell? ⟨w.heap.size + 1, 3, none⟩ = some (.int .i64 0) ∧ wr.cell? ⟨w.heap.size + 1, 4, none⟩ = some (.int .i64 0) ∧ wr.frozen? ⟨w.heap.size + 1, 0, none⟩ = false ∧ wr.frozen? ⟨w.heap.size + 1, 1, none⟩ = false ∧ wr.frozen? ⟨w.heap.size + 1, 2, none⟩ = false ∧ wr.frozen? ⟨w.heap.size + 1, 3, none⟩ = false ∧ wr.frozen? ⟨w.heap.size + 1, 4, none⟩ = false

set_option maxHeartbeats 1000000 in
set_option maxRecDepth 100000 in
theorem midnights_any (d m l u o n d' m' l' : Int) (w : World) (h : VF d m l) (h' : VF d' m' l') (hp : posD d' m' l' = (posD d m l + n) % 1461) (hu : 0 ≤ u ∧ u ≤ 6) (ho : 0 ≤ o ∧ o ≤ 58) (hn : 0 ≤ n ∧ n ≤ 200000) :
    Calls Try.prog 72 #[.agg #[.int .i64 d, .int .i64 m, .int .i64 l, .int .i64 u, .int .i64 o], .int .i64 n] w fun e w' => e = .returned (.agg #[.int .i64 d', .int .i64 m', .int .i64 l', .int .i64 ((u + n) % 7), .int .i64 ((o + n) % 59)]) ∧ Gro w w' := by
  obtain ⟨u0, u1⟩ := hu
  obtain ⟨o0, o1⟩ := ho
  obtain ⟨n0, n1⟩ := hn
  have hpb := pos_bd h
  have HE : Hid (∀ a b c, VF a b c → posD a b c = (posD d m l + n % 1461) % 1461 → a = d' ∧ b = m' ∧ c = l') := fun a b c ha hb => pos_inj ha h' (by rw [hb, hp]; omega)
  have HS := fun a b c (ha : VF a b c) => Lib.hid (nx_ok ha)
  have HC := fun a b c (ha : VF a b c) W => Lib.hid (corrected_1 a b c ((u + n) % 7) ((o + n) % 59) W ha)
  obtain ⟨p0, hp0⟩ : ∃ p0, p0 = posD d m l := ⟨_, rfl⟩
  rw [← hp0] at HE hpb
  have H0 : Hid (VF d m l ∧ posD d m l = (p0 + 0) % 1461) := Lib.hid ⟨h, by omega⟩
  clear h h' hp hp0
  go_enter Try.func72, Try.ntmps72
  go_wp2_with fail
  go_loopw [19] (fun t wr => ∃ (k a b c : Int), (0 ≤ k ∧ k ≤ n % 1461) ∧ t = .int .i64 k ∧ Hid (VF a b c ∧ posD a b c = (p0 + k) % 1461) ∧ Hid (MidR w a b c ((u + n) % 7) ((o + n) % 59) wr)) (fun t _ => (n % 1461 - intOf t).toNat)
  case atStart =>
    refine ⟨0, d, m, l, by omega, rfl, H0, Lib.hid ⟨by (with_reducible repeat (first | exact gro_refl _ | refine gro_alloc ?_ _ | refine gro_drew ?_ | refine gro_drewN ?_ _ | (refine gro_set ?_ ?_ _; (focus first | omega | (dsimp only; omega))))), by (try simp only [World.size_alloc, World.size_setCell, World.size_drew, size_drewN]); omega, ?_⟩⟩
    and_intros
    all_goals first | ((with_reducible repeat (first | refine kc_drew ?_ | refine kc_drewN _ ?_ | (refine kc_new ?_ ?_; (focus first | rfl | (simp only [World.size_alloc, World.size_setCell, World.size_drew, size_drewN]; done)); (focus first | rfl | (simp; done))) | (refine kc_set0 ?_ ?_; (focus first | rfl | (simp; done))) | exact ct_of (by assumption) | refine ct_drew ?_ | refine ct_drewN _ ?_ | (refine ct_new ?_ ?_; (focus first | rfl | (simp only [World.size_alloc, World.size_setCell, World.size_drew, size_drewN]; done)); (focus first | rfl | (simp; done))) | refine ct_set _ _ ?_ | refine ct_alloc _ ?_ | (refine kc_set ?_ ?_; (focus first | (intro hx; injection hx; omega) | (simp; done))) | refine kc_alloc _ ?_)); done) | ((with_reducible repeat (first | refine kf_drew ?_ | refine kf_drewN _ ?_ | (refine kf_new ?_ _; (focus first | rfl | (simp only [World.size_alloc, World.size_setCell, World.size_drew, size_drewN]; done))) | refine kf_set _ _ ?_ | (refine kf_alloc _ ?_ ?_; (focus first | (simp only [World.size_alloc, World.size_setCell, World.size_drew, size_drewN]; omega) | (dsimp only; omega))))); done)
  case round =>
    clear H0
    obtain ⟨k, a, b, c, hk, rfl, hV, hI⟩ := hrel
    obtain ⟨hG, hz, q0, q1, q2, q3, q4, q5, q6, q7, q8, q9, q10, q11, q12, q13, q14, q15, q16, q17, q18, q19⟩ := hI.out
    have g1 : w.heap.size + 1 < wr.heap.size := hz
    have g0 : w.heap.size < wr.heap.size := by omega
    clear hI
    obtain ⟨k0, hk⟩ := hk
    by_cases hlt : k < n % 1461
    · skip
      have HC1 := HC a b c hV.out.1
      have hnx := (HS a b c hV.out.1).out
      have HV2 : Hid (VF (nxDay a b c) (nxMon a b c) (nxLeap a b c) ∧ posD (nxDay a b c) (nxMon a b c) (nxLeap a b c) = (p0 + (k + 1)) % 1461) := Lib.hid ⟨hnx.1, by have := hnx.2; have := hV.out.2; omega⟩
      clear hnx hV
      generalize nxDay a b c = a2 at *
      generalize nxMon a b c = b2 at *
      generalize nxLeap a b c = c2 at *
      go_wp2_with (go_at_call 73; ((with_reducible refine (HC1 _).out.mono ?_); rintro v w2 ⟨rfl, hk2⟩; have hb2 := hk2.below; have ⟨q0, q1, q2, q3, q4, q10, q11, q12, q13, q14⟩ : w2.cell? ⟨w.heap.size, 0, none⟩ = some (.int .i64 a) ∧ w2.cell? ⟨w.heap.size, 1, none⟩ = some (.int .i64 b) ∧ w2.cell? ⟨w.heap.size, 2, none⟩ = some (.int .i64 c) ∧ w2.cell? ⟨w.heap.size, 3, none⟩ = some (.int .i64 ((u + n) % 7)) ∧ w2.cell? ⟨w.heap.size, 4, none⟩ = some (.int .i64 ((o + n) % 59)) ∧ w2.cell? ⟨w.heap.size + 1, 0, none⟩ = some (.int .i64 0) ∧ w2.cell? ⟨w.heap.size + 1, 1, none⟩ = some (.int .i64 0) ∧ w2.cell? ⟨w.heap.size + 1, 2, none⟩ = some (.int .i64 0) ∧ w2.cell? ⟨w.heap.size + 1, 3, none⟩ = some (.int .i64 0) ∧ w2.cell? ⟨w.heap.size + 1, 4, none⟩ = some (.int .i64 0) := (by and_intros <;> (with_reducible repeat (first | exact q0 | exact q1 | exact q2 | exact q3 | exact q4 | exact q5 | exact q6 | exact q7 | exact q8 | exact q9 | exact q10 | exact q11 | exact q12 | exact q13 | exact q14 | exact q15 | exact q16 | exact q17 | exact q18 | exact q19 | refine kc_drew ?_ | refine kc_drewN _ ?_ | refine kc_below hb2 ?_ | (refine kc_new ?_ ?_; (focus first | rfl | (simp only [World.size_alloc, World.size_setCell, World.size_drew, size_drewN]; done)); (focus first | rfl | (simp; done))) | (refine kc_set0 ?_ ?_; (focus first | rfl | (simp; done))) | exact ct_of (by assumption) | refine ct_drew ?_ | refine ct_drewN _ ?_ | refine ct_below hb2 ?_ | (refine ct_new ?_ ?_; (focus first | rfl | (simp only [World.size_alloc, World.size_setCell, World.size_drew, size_drewN]; done)); (focus first | rfl | (simp; done))) | refine ct_set _ _ ?_ | refine ct_alloc _ ?_ | (refine kc_set ?_ ?_; (focus first | (intro hx; injection hx; omega) | (simp; done))) | refine kc_alloc _ ?_))); have ⟨q5, q6, q7, q8, q9, q15, q16, q17, q18, q19⟩ : w2.frozen? ⟨w.heap.size, 0, none⟩ = false ∧ w2.frozen? ⟨w.heap.size, 1, none⟩ = false ∧ w2.frozen? ⟨w.heap.size, 2, none⟩ = false ∧ w2.frozen? ⟨w.heap.size, 3, none⟩ = false ∧ w2.frozen? ⟨w.heap.size, 4, none⟩ = false ∧ w2.frozen? ⟨w.heap.size + 1, 0, none⟩ = false ∧ w2.frozen? ⟨w.heap.size + 1, 1, none⟩ = false ∧ w2.frozen? ⟨w.heap.size + 1, 2, none⟩ = false ∧ w2.frozen? ⟨w.heap.size + 1, 3, none⟩ = false ∧ w2.frozen? ⟨w.heap.size + 1, 4, none⟩ = false := (by and_intros <;> (with_reducible repeat (first | exact q0 | exact q1 | exact q2 | exact q3 | exact q4 | exact q5 | exact q6 | exact q7 | exact q8 | exact q9 | exact q10 | exact q11 | exact q12 | exact q13 | exact q14 | exact q15 | exact q16 | exact q17 | exact q18 | exact q19 | refine kf_drew ?_ | refine kf_drewN _ ?_ | (refine kf_new ?_ _; (focus first | rfl | (simp only [World.size_alloc, World.size_setCell, World.size_drew, size_drewN]; done))) | refine kf_set _ _ ?_ | (refine kf_below hb2 ?_ ?_; (focus simp only [World.size_alloc, World.size_setCell, World.size_drew, size_drewN]; omega)) | (refine kf_alloc _ ?_ ?_; (focus first | (simp only [World.size_alloc, World.size_setCell, World.size_drew, size_drewN]; omega) | (dsimp only; omega)))))); have hz2 := hb2.size; (try simp only [World.size_alloc, World.size_setCell, World.size_drew, size_drewN] at hz2); have g0 : w.heap.size < w2.heap.size := (by omega); have g1 : w.heap.size + 1 < w2.heap.size := (by omega); have hG : Gro w w2 := (by (with_reducible repeat (first | exact hG | exact gro_refl _ | refine gro_alloc ?_ _ | refine gro_drew ?_ | refine gro_drewN ?_ _ | (refine gro_set ?_ ?_ _; (focus first | omega | (dsimp only; omega))) | refine gro_call ?_ hk2)))))
      go_roundw
      case rel =>
        refine ⟨k + 1, a2, b2, c2, by omega, by go_num, HV2, Lib.hid ⟨by (with_reducible repeat (first | exact hG | exact gro_refl _ | refine gro_alloc ?_ _ | refine gro_drew ?_ | refine gro_drewN ?_ _ | (refine gro_set ?_ ?_ _; (focus first | omega | (dsimp only; omega))))), by (try simp only [World.size_alloc, World.size_setCell, World.size_drew, size_drewN]); omega, ?_⟩⟩
        and_intros
        all_goals first | ((with_reducible repeat (first | exact q0 | exact q1 | exact q2 | exact q3 | exact q4 | exact q5 | exact q6 | exact q7 | exact q8 | exact q9 | exact q10 | exact q11 | exact q12 | exact q13 | exact q14 | exact q15 | exact q16 | exact q17 | exact q18 | exact q19 | refine kc_drew ?_ | refine kc_drewN _ ?_ | (refine kc_new ?_ ?_; (focus first | rfl | (simp only [World.size_alloc, World.size_setCell, World.size_drew, size_drewN]; done)); (focus first | rfl | (simp; done))) | (refine kc_set0 ?_ ?_; (focus first | rfl | (simp; done))) | exact ct_of (by assumption) | refine ct_drew ?_ | refine ct_drewN _ ?_ | (refine ct_new ?_ ?_; (focus first | rfl | (simp only [World.size_alloc, World.size_setCell, World.size_drew, size_drewN]; done)); (focus first | rfl | (simp; done))) | refine ct_set _ _ ?_ | refine ct_alloc _ ?_ | (refine kc_set ?_ ?_; (focus first | (intro hx; injection hx; omega) | (simp; done))) | refine kc_alloc _ ?_)); done) | ((with_reducible repeat (first | exact q0 | exact q1 | exact q2 | exact q3 | exact q4 | exact q5 | exact q6 | exact q7 | exact q8 | exact q9 | exact q10 | exact q11 | exact q12 | exact q13 | exact q14 | exact q15 | exact q16 | exact q17 | exact q18 | exact q19 | refine kf_drew ?_ | refine kf_drewN _ ?_ | (refine kf_new ?_ _; (focus first | rfl | (simp only [World.size_alloc, World.size_setCell, World.size_drew, size_drewN]; done))) | refine kf_set _ _ ?_ | (refine kf_alloc _ ?_ ?_; (focus first | (simp only [World.size_alloc, World.size_setCell, World.size_drew, size_drewN]; omega) | (dsimp only; omega))))); done)
      case measure => simp [intOf]; omega
    · have hkN : k = n % 1461 := by omega
      obtain ⟨rfl, rfl, rfl⟩ := HE.out a b c hV.out.1 (hkN ▸ hV.out.2)
      clear hkN
      go_wp2_with fail
      (try simp only [Exit.inBlock, Exit.then])
      refine bodyPost_ret (v := .agg #[.int .i64 a, .int .i64 b, .int .i64 c, .int .i64 ((u + n) % 7), .int .i64 ((o + n) % 59)]) ?_ rfl ⟨rfl, by (with_reducible repeat (first | exact hG | exact gro_refl _ | refine gro_alloc ?_ _ | refine gro_drew ?_ | refine gro_drewN ?_ _ | (refine gro_set ?_ ?_ _; (focus first | omega | (dsimp only; omega)))))⟩
      have hres : Try.f72.results = #[.cell 4 40] := by kernel_rfl
      simp only [results, hres]
      go_simp
end Go.Proofs.Ytmcndbfnjpkelaa
