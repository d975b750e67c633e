/- Walks of package dial: the date of a number. -/
import Derived.Test.YtmcndbfnjpkelaaDc
import Derived.Test.YtmcndbfnjpkelaaShelf
import Derived.LoopTactic
import Derived.LoopN
namespace Go.Proofs.Ytmcndbfnjpkelaa
set_option linter.unusedVariables false
set_option linter.unusedSimpArgs false
open Go.RowKit Go.Lib Go.Shelf Go.Sort

theorem below_grow (w : World) (q : Nat) (os : Array Obj) : Below w.heap.size w (grow (w.drewN q) os) :=
  ⟨rfl, rfl, rfl, by simp [Go.Sort.grow, World.drewN], fun k hk => Go.Sort.heap_grow_old (w.drewN q) os hk⟩

theorem count_lt (k N : Nat) (p : Nat → Bool) (hp : ∀ i, i < N → p i = decide (i < k)) (hk : k ≤ N) : (List.range N).countP p = k := by
  have h : ∀ M, M ≤ N → (List.range M).countP p = min k M := by
    intro M
    induction M with
    | zero => intro _; simp
    | succ M ih =>
      intro hM
      rw [List.range_succ, List.countP_append, ih (by omega)]
      simp only [List.countP_cons, List.countP_nil]
      rw [hp M (by omega)]
      by_cases h : M < k
      · simp [h]; omega
      · simp [h]; omega
  rw [h N (Nat.le_refl _)]
  omega

set_option maxHeartbeats 1000000 in
set_option maxRecDepth 100000 in
theorem dateFn_any (b i : Nat) (n : Int) (w : World) (hc : w.cell? ⟨b, 0, none⟩ = some (.int .i64 n)) (hi : i ≤ 9999) :
    Calls Try.prog 83 #[.int .i64 i, .pointer (some ⟨b, 0, none⟩)] w fun e w' => e = .returned (.bool (decide (n < nyD ((i : Int) + 2)))) ∧ Gro w w' := by
  have HN := fun W => Lib.hid (newYear_any ((i : Int) + 2) W (by omega) (by omega))
  have h0 : 0 ≤ (i : Int) := by omega
  generalize nyD ((i : Int) + 2) = k at *
  go_enter Try.func83, Try.ntmps83
  go_wp2_with fail
  go_quiet ((go_at_call 81; exact qt_same (HN _).out))
  go_wp2_with fail
  go_ret
  exact ⟨rfl, by (repeat (first | with_reducible rfl | with_reducible exact Below.refl _ _ | with_reducible exact gro_refl _ | with_reducible refine kc_drew ?_ | with_reducible refine kc_drewN _ ?_ | with_reducible refine kf_drew ?_ | with_reducible refine kf_drewN _ ?_ | ((with_reducible refine kc_new ?_ ?_); (focus (first | with_reducible rfl | (simp only [World.size_alloc, World.size_setCell, World.size_drew, size_drewN]; done))); (focus (first | rfl | (simp; done)))) | ((with_reducible refine kc_set0 ?_ ?_); (focus (first | rfl | (simp; done)))) | with_reducible refine ct_drew ?_ | with_reducible refine ct_drewN _ ?_ | ((with_reducible refine ct_new ?_ ?_); (focus (first | with_reducible rfl | (simp only [World.size_alloc, World.size_setCell, World.size_drew, size_drewN]; done))); (focus (first | rfl | (simp; done)))) | with_reducible refine ct_set _ _ ?_ | with_reducible refine ct_alloc _ ?_ | ((with_reducible refine kc_set ?_ ?_); (focus (first | (intro hx; injection hx; omega) | (simp; done)))) | with_reducible refine kc_alloc _ ?_ | ((with_reducible refine kf_new ?_ _); (focus (first | with_reducible rfl | (simp only [World.size_alloc, World.size_setCell, World.size_drew, size_drewN]; done)))) | with_reducible refine kf_set _ _ ?_ | ((with_reducible refine kf_alloc _ ?_ ?_); (focus (first | (simp only [World.size_alloc, World.size_setCell, World.size_drew, size_drewN]; omega) | (dsimp only; omega)))) | with_reducible refine bl_alloc ?_ _ | with_reducible refine bl_drew ?_ | with_reducible refine bl_drewN ?_ _ | ((with_reducible refine bl_set ?_ ?_ _); (focus (dsimp only; omega))) | with_reducible refine gro_alloc ?_ _ | with_reducible refine gro_drew ?_ | with_reducible refine gro_drewN ?_ _ | ((with_reducible refine gro_set ?_ ?_ _); (focus (first | omega | (dsimp only; omega))))))⟩

theorem dateSearch_any (b : Nat) (n y : Int) (w : World) (hc : w.cell? ⟨b, 0, none⟩ = some (.int .i64 n)) (hy : 1 ≤ y ∧ y ≤ 9999) (h1 : nyD y ≤ n) (h2 : n < nyD (y + 1)) :
    Calls Try.prog 82 #[.int .i64 9998, .func (.func 83) #[] #[.pointer (some ⟨b, 0, none⟩)]] w fun e w' => e = .returned (.int .i64 (y - 1)) ∧ Gro w w' := by
  have eg : ∀ args w, (callFunc 83 args).run Try.prog w = .ok (.enter 83 args) w := enters_of Try.func83 (by kernel_rfl) rfl
  have hb := World.block_lt_of_cell? _ _ hc
  have hp : ∀ i : Nat, decide (n < nyD ((i : Int) + 2)) = !decide (i < (y - 1).toNat) := by
    intro i
    by_cases hi : i < (y - 1).toNat
    · have hle : nyD ((i : Int) + 2) ≤ nyD y := by
        rcases Int.lt_or_le ((i : Int) + 2) y with h | h
        · have := ny_lt h; have := bI_bd (leapB ((i : Int) + 2)); omega
        · have : (i : Int) + 2 = y := by omega
          rw [this]; exact Int.le_refl _
      rw [decide_eq_true hi, decide_eq_false (by omega)]
      rfl
    · have hle : nyD (y + 1) ≤ nyD ((i : Int) + 2) := by
        rcases Int.lt_or_le (y + 1) ((i : Int) + 2) with h | h
        · have := ny_lt h; have := bI_bd (leapB (y + 1)); omega
        · have : (i : Int) + 2 = y + 1 := by omega
          rw [this]; exact Int.le_refl _
      rw [decide_eq_false hi, decide_eq_true (by omega)]
      rfl
  have hcon := Any.sort_Search Try.searchS 83 #[.pointer (some ⟨b, 0, none⟩)] 9998 (fun i => decide (n < nyD ((i : Int) + 2))) w eg (by omega)
    (fun m os i hi => dateFn_any b i n _ (kc_below (below_grow w m os) hc) (by omega))
    (fun a c hac hc9 ha => by
      have ha' : decide (n < nyD ((a : Int) + 2)) = true := ha
      show decide (n < nyD ((c : Int) + 2)) = true
      rw [hp] at ha' ⊢
      simp at ha' ⊢
      omega)
  rw [count_lt (y - 1).toNat 9998 _ (fun i _ => by rw [hp]; simp) (by omega)] at hcon
  rw [show (((y - 1).toNat : Nat) : Int) = y - 1 by omega] at hcon
  change Calls Try.prog 82 _ _ _ at hcon
  exact hcon

/-- The world in a round of dateOf: the result's box, and d's. -/
def DateR (w : World) (D : Nat) (y k d : Int) (wr : World) : Prop :=
  Gro w wr ∧ w.heap.size + 1 < D ∧ D < wr.heap.size ∧ wr.cell? ⟨w.heap.size + 1, 0, none⟩ = some (.int .i64 0) ∧ wr.cell? ⟨w.heap.size + 1, 1, none⟩ = some (.int .i64 0) ∧ wr.cell? ⟨w.heap.size + 1, 2, none⟩ = some (.int .i64 0) ∧ wr.frozen? ⟨w.heap.size + 1, 0, none⟩ = false ∧ wr.frozen? ⟨w.heap.size + 1, 1, none⟩ = false ∧ wr.frozen? ⟨w.heap.size + 1, 2, none⟩ = false ∧ wr.cell? ⟨D, 0, none⟩ = some (.int .i64 y) ∧ wr.cell? ⟨D, 1, none⟩ = some (.int .i64 k) ∧ wr.cell? ⟨D, 2, none⟩ = some (.int .i64 (d)) ∧ wr.frozen? ⟨D, 0, none⟩ = false ∧ wr.frozen? ⟨D, 1, none⟩ = false ∧ wr.frozen? ⟨D, 2, none⟩ = false

set_option maxHeartbeats 4000000 in
set_option maxRecDepth 100000 in
theorem dateOf_any (y m d : Int) (w : World) (h : VD y m d) :
    Calls Try.prog 64 #[.int .i64 (numD y m d)] w fun v w' => v = .returned (.agg #[.int .i64 y, .int .i64 m, .int .i64 d]) ∧ Gro w w' := by
  have hlo := num_lo h
  have hbd := num_bd h
  obtain ⟨⟨y1, y2⟩, ⟨m1, m2⟩, d1, d2⟩ := h
  have HS := fun W hc => Lib.hid (dateSearch_any w.heap.size (numD y m d) y W hc ⟨y1, y2⟩ hlo.1 hlo.2)
  have HN := fun W => Lib.hid (newYear_any y W (by omega) (by omega))
  have nb := ny_bd (y := y) (by omega) (by omega)
  have HL0 := fun k (h1 : 1 ≤ k) (h2 : k ≤ 12) W => Lib.hid (lengthOf_any y k W (by omega) h1 h2)
  have E : numD y m d - nyD y + 1 = befD m (leapB y) + d := by unfold numD; omega
  have HT := fun k (h1 : 1 ≤ k) (h2 : k < m) => Lib.hid (bef_lt (leapB y) h1 h2 m2)
  have HP := fun k (h1 : 1 ≤ k) (h2 : k ≤ 12) => Lib.hid (bef_step (leapB y) h1 h2)
  have HO := bef_one (leapB y)
  have HO' := Lib.hid HO
  have HB := fun k (h1 : 1 ≤ k) (h2 : k ≤ 12) => Lib.hid (bef_bd (leapB y) h1 h2)
  have HI := bI_bd (leapB y)
  have hm31 := mon_bd m (leapB y)
  obtain ⟨nb1, nb2, _⟩ := nb
  obtain ⟨hb1, hb2⟩ := hbd
  generalize numD y m d = n at *
  generalize nyD y = ny at *
  generalize hlb : leapB y = b at *
  clear hlo hlb
  have d31 : d ≤ 31 := by omega
  have bm := (HB m m1 m2).out
  have wA : IntKind.i64.wrap (n - ny) = n - ny := IntWalk.i64_in _ (by omega)
  have wB : IntKind.i64.wrap (n - ny + 1) = n - ny + 1 := IntWalk.i64_in _ (by omega)
  have ey : 1 + (y - 1) = y := by omega
  have E' := Lib.hid E
  clear E HO
  go_enter Try.func64, Try.ntmps64
  go_wp2_with (go_at_call 82; ((with_reducible refine (HS _ (by (with_reducible repeat (first | refine kc_drew ?_ | refine kc_drewN _ ?_ | (refine kc_new ?_ ?_; (focus first | rfl | (simp only [World.size_alloc, World.size_setCell, World.size_drew, size_drewN]; done)); (focus first | rfl | (simp; done))) | (refine kc_set0 ?_ ?_; (focus first | rfl | (simp; done))) | exact ct_of (by assumption) | refine ct_drew ?_ | refine ct_drewN _ ?_ | (refine ct_new ?_ ?_; (focus first | rfl | (simp only [World.size_alloc, World.size_setCell, World.size_drew, size_drewN]; done)); (focus first | rfl | (simp; done))) | refine ct_set _ _ ?_ | refine ct_alloc _ ?_ | (refine kc_set ?_ ?_; (focus first | (intro hx; injection hx; omega) | (simp; done))) | refine kc_alloc _ ?_)))).out.mono ?_); rintro v w1 ⟨rfl, hk1⟩; have hb1 := hk1.below; have ⟨r0, r1, r2, r3⟩ : w1.cell? ⟨w.heap.size, 0, none⟩ = some (.int .i64 n) ∧ w1.cell? ⟨w.heap.size + 1, 0, none⟩ = some (.int .i64 0) ∧ w1.cell? ⟨w.heap.size + 1, 1, none⟩ = some (.int .i64 0) ∧ w1.cell? ⟨w.heap.size + 1, 2, none⟩ = some (.int .i64 0) := (by and_intros <;> (with_reducible repeat (first | refine kc_drew ?_ | refine kc_drewN _ ?_ | refine kc_below hb1 ?_ | (refine kc_new ?_ ?_; (focus first | rfl | (simp only [World.size_alloc, World.size_setCell, World.size_drew, size_drewN]; done)); (focus first | rfl | (simp; done))) | (refine kc_set0 ?_ ?_; (focus first | rfl | (simp; done))) | exact ct_of (by assumption) | refine ct_drew ?_ | refine ct_drewN _ ?_ | refine ct_below hb1 ?_ | (refine ct_new ?_ ?_; (focus first | rfl | (simp only [World.size_alloc, World.size_setCell, World.size_drew, size_drewN]; done)); (focus first | rfl | (simp; done))) | refine ct_set _ _ ?_ | refine ct_alloc _ ?_ | (refine kc_set ?_ ?_; (focus first | (intro hx; injection hx; omega) | (simp; done))) | refine kc_alloc _ ?_))); have ⟨r4, r5, r6⟩ : w1.frozen? ⟨w.heap.size + 1, 0, none⟩ = false ∧ w1.frozen? ⟨w.heap.size + 1, 1, none⟩ = false ∧ w1.frozen? ⟨w.heap.size + 1, 2, none⟩ = false := (by and_intros <;> (with_reducible repeat (first | refine kf_drew ?_ | refine kf_drewN _ ?_ | (refine kf_new ?_ _; (focus first | rfl | (simp only [World.size_alloc, World.size_setCell, World.size_drew, size_drewN]; done))) | refine kf_set _ _ ?_ | (refine kf_below hb1 ?_ ?_; (focus simp only [World.size_alloc, World.size_setCell, World.size_drew, size_drewN]; omega)) | (refine kf_alloc _ ?_ ?_; (focus first | (simp only [World.size_alloc, World.size_setCell, World.size_drew, size_drewN]; omega) | (dsimp only; omega)))))); have hz1 := hb1.size; (try simp only [World.size_alloc, World.size_setCell, World.size_drew, size_drewN] at hz1); have hG : Gro w w1 := (by (with_reducible repeat (first | exact gro_refl _ | refine gro_alloc ?_ _ | refine gro_drew ?_ | refine gro_drewN ?_ _ | (refine gro_set ?_ ?_ _; (focus first | omega | (dsimp only; omega))) | refine gro_call ?_ hk1))); have hg1 : w.heap.size + 1 < w1.heap.size := (by omega); have hg0 : w.heap.size < w1.heap.size := (by omega)))
  go_region_held3 (fun w' => w'.cell? ⟨w.heap.size, 0, none⟩ = some (.int .i64 n)) (((try dsimp only); (repeat' apply And.intro)) <;> (with_reducible repeat (first | exact r0 | exact r1 | exact r2 | exact r3 | refine kc_drew ?_ | refine kc_drewN _ ?_ | (refine kc_new ?_ ?_; (focus first | rfl | (simp only [World.size_alloc, World.size_setCell, World.size_drew, size_drewN]; done)); (focus first | rfl | (simp; done))) | (refine kc_set0 ?_ ?_; (focus first | rfl | (simp; done))) | exact ct_of (by assumption) | refine ct_drew ?_ | refine ct_drewN _ ?_ | (refine ct_new ?_ ?_; (focus first | rfl | (simp only [World.size_alloc, World.size_setCell, World.size_drew, size_drewN]; done)); (focus first | rfl | (simp; done))) | refine ct_set _ _ ?_ | refine ct_alloc _ ?_ | (refine kc_set ?_ ?_; (focus first | (intro hx; injection hx; omega) | (simp; done))) | refine kc_alloc _ ?_))) (first | (go_at_call 81; ((with_reducible refine (HN _).out.mono ?_); rintro v w2 ⟨rfl, rfl⟩)))
  all_goals go_wp2_with fail
  all_goals
    obtain ⟨D, hD⟩ : ∃ D, D = w1.heap.size := ⟨_, rfl⟩
    rw [← hD]
    go_loopg [] 12 (fun gh wr => ∃ k : Int, (1 ≤ k ∧ k ≤ m) ∧ (m - k).toNat ≤ gh ∧ Hid (DateR w D y k (d + befD m b - befD k b) wr))
    case atStart =>
      refine ⟨1, by omega, by omega, Lib.hid ⟨by (with_reducible repeat (first | exact hG | exact gro_refl _ | refine gro_alloc ?_ _ | refine gro_drew ?_ | refine gro_drewN ?_ _ | (refine gro_set ?_ ?_ _; (focus first | omega | (dsimp only; omega))))), by omega, by simp only [World.size_alloc, World.size_setCell, World.size_drew, size_drewN]; omega, ?_⟩⟩
      have e3 : d + befD m b - befD 1 b = n - ny + 1 := by rw [HO'.out, E'.out]; omega
      rw [e3]
      subst hD
      and_intros
      all_goals first | ((with_reducible repeat (first | exact r0 | exact r1 | exact r2 | exact r3 | exact r4 | exact r5 | exact r6 | exact r7 | exact r8 | exact r9 | exact r10 | exact r11 | exact r12 | refine kc_drew ?_ | refine kc_drewN _ ?_ | (refine kc_new ?_ ?_; (focus first | rfl | (simp only [World.size_alloc, World.size_setCell, World.size_drew, size_drewN]; done)); (focus first | rfl | (simp; done))) | (refine kc_set0 ?_ ?_; (focus first | rfl | (simp; done))) | exact ct_of (by assumption) | refine ct_drew ?_ | refine ct_drewN _ ?_ | (refine ct_new ?_ ?_; (focus first | rfl | (simp only [World.size_alloc, World.size_setCell, World.size_drew, size_drewN]; done)); (focus first | rfl | (simp; done))) | refine ct_set _ _ ?_ | refine ct_alloc _ ?_ | (refine kc_set ?_ ?_; (focus first | (intro hx; injection hx; omega) | (simp; done))) | refine kc_alloc _ ?_)); done) | ((with_reducible repeat (first | exact r0 | exact r1 | exact r2 | exact r3 | exact r4 | exact r5 | exact r6 | exact r7 | exact r8 | exact r9 | exact r10 | exact r11 | exact r12 | refine kf_drew ?_ | refine kf_drewN _ ?_ | (refine kf_new ?_ _; (focus first | rfl | (simp only [World.size_alloc, World.size_setCell, World.size_drew, size_drewN]; done))) | refine kf_set _ _ ?_ | (refine kf_alloc _ ?_ ?_; (focus first | (simp only [World.size_alloc, World.size_setCell, World.size_drew, size_drewN]; omega) | (dsimp only; omega))))); done)
    case round =>
      clear hD hg1 hg0 hz1 hG hb1 hk1 r0 r1 r2 r3 r4 r5 r6 HS HN wA wB
      obtain ⟨k, ⟨k1, k2⟩, hgh, hI⟩ := hrel
      obtain ⟨hG, hBD, hDz, r0, r1, r2, r3, r4, r5, r6, r7, r8, r9, r10, r11⟩ := hI.out
      have hB0 : w.heap.size < D := by omega
      have hB2 : w.heap.size < wr.heap.size := by omega
      have hB3 : w.heap.size + 1 < wr.heap.size := by omega
      clear hI
      have HL := HL0 k k1 (by omega)
      have hk0 := (HB k k1 (by omega)).out
      have hl0 := mon_bd k b
      by_cases hkm : k < m
      · have hlt := (HT k k1 hkm).out
        have hs := (HP k k1 (by omega)).out
        have E3 : Hid (d + befD m b - befD (k + 1) b = d + befD m b - befD k b - monD k b) := by rw [hs]; show _ = _; omega
        obtain ⟨v, hv⟩ : ∃ v, v = d + befD m b - befD k b := ⟨_, rfl⟩
        rw [← hv] at r8 E3
        have v0 : monD k b < v := by omega
        have v1 : v ≤ 400 := by have := bI_bd b; omega
        generalize monD k b = l at *
        clear hv hlt hs hk0
        have wC : IntKind.i64.wrap (v - l) = v - l := IntWalk.i64_in _ (by omega)
        go_wp2_with fail
        go_quiet ((go_at_call 67; exact qt_same (HL _).out))
        go_wp2_with fail
        go_region_with (go_at_call 67; ((with_reducible refine (HL _).out.mono ?_); rintro v w2 ⟨rfl, rfl⟩))
        all_goals go_wp2_with fail
        all_goals go_roundg ((m - (k + 1)).toNat)
        all_goals first | omega | (exact ⟨k + 1, by omega, by omega, Lib.hid ⟨by (with_reducible repeat (first | exact hG | exact gro_refl _ | refine gro_alloc ?_ _ | refine gro_drew ?_ | refine gro_drewN ?_ _ | (refine gro_set ?_ ?_ _; (focus first | omega | (dsimp only; omega))))), hBD, by (try simp only [World.size_alloc, World.size_setCell, World.size_drew, size_drewN]); omega, by rw [E3.out]; and_intros <;> first | ((with_reducible repeat (first | exact r0 | exact r1 | exact r2 | exact r3 | exact r4 | exact r5 | exact r6 | exact r7 | exact r8 | exact r9 | exact r10 | exact r11 | refine kc_drew ?_ | refine kc_drewN _ ?_ | (refine kc_new ?_ ?_; (focus first | rfl | (simp only [World.size_alloc, World.size_setCell, World.size_drew, size_drewN]; done)); (focus first | rfl | (simp; done))) | (refine kc_set0 ?_ ?_; (focus first | rfl | (simp; done))) | exact ct_of (by assumption) | refine ct_drew ?_ | refine ct_drewN _ ?_ | (refine ct_new ?_ ?_; (focus first | rfl | (simp only [World.size_alloc, World.size_setCell, World.size_drew, size_drewN]; done)); (focus first | rfl | (simp; done))) | refine ct_set _ _ ?_ | refine ct_alloc _ ?_ | (refine kc_set ?_ ?_; (focus first | (intro hx; injection hx; omega) | (simp; done))) | refine kc_alloc _ ?_)); done) | ((with_reducible repeat (first | exact r0 | exact r1 | exact r2 | exact r3 | exact r4 | exact r5 | exact r6 | exact r7 | exact r8 | exact r9 | exact r10 | exact r11 | refine kf_drew ?_ | refine kf_drewN _ ?_ | (refine kf_new ?_ _; (focus first | rfl | (simp only [World.size_alloc, World.size_setCell, World.size_drew, size_drewN]; done))) | refine kf_set _ _ ?_ | (refine kf_alloc _ ?_ ?_; (focus first | (simp only [World.size_alloc, World.size_setCell, World.size_drew, size_drewN]; omega) | (dsimp only; omega))))); done)⟩⟩)
      · have hkm' : k = m := by omega
        subst hkm'
        have ed : d + befD k b - befD k b = d := by omega
        rw [ed] at r8
        have v0 : ¬ monD k b < d := by omega
        generalize monD k b = l at *
        clear hk0 ed
        go_wp2_with fail
        go_quiet ((go_at_call 67; exact qt_same (HL _).out))
        go_wp2_with fail
        (try simp only [Exit.inBlock, Exit.then])
        refine bodyPost_ret (v := .agg #[.int .i64 y, .int .i64 k, .int .i64 d]) ?_ rfl ⟨rfl, by (with_reducible repeat (first | exact hG | exact gro_refl _ | refine gro_alloc ?_ _ | refine gro_drew ?_ | refine gro_drewN ?_ _ | (refine gro_set ?_ ?_ _; (focus first | omega | (dsimp only; omega)))))⟩
        have hres : Try.f64.results = #[.cell 2 23] := by kernel_rfl
        simp only [results, hres]
        go_simp
end Go.Proofs.Ytmcndbfnjpkelaa
