/- gear.sides: the walk. -/
import Derived.Test.YtmigddempeecoaaGenP
import Derived.Test.YtmigddempeecoaaCompact
import Derived.Deep.DeepCutAuto
import Derived.Deep.CutBlock
import Derived.Deep.DeepMust
import Derived.Maps.AppendAt
namespace Go.Proofs.Ytmigddempeecoaa
set_option linter.unusedVariables false
set_option linter.unusedSimpArgs false
open Go.RowKit Go.Shelf Go.Lib Go.Sort

theorem side_info : (Try.prog.info? 102).map (fun i => (i.zero, i.size, i.bytes)) = some (some (.agg #[.int .i64 0, .int .i64 0, .int .i64 0, .int .i64 0, .int .i64 0]), 5, 40) := by kernel_rfl

/-- The sides of k stages lie in a row of the call's own. -/
def AllAt (B : Nat) (w wr : World) (l : List Side) (v : Value) : Prop :=
  ∃ g cap, v = .slice (some ⟨g, 0, none⟩) l.length cap ∧ B ≤ g ∧ g < wr.heap.size ∧ l.length ≤ cap ∧ cap ≤ maxLen ∧ HoldsK Side.enc 5 wr g 0 l.toArray ∧ Below B w wr

/-- The longer sides that have been made. -/
def AccAt (B : Nat) (w1 wr : World) (l : List Side) (v : Value) : Prop := wr.ownsRow B 102 5 v l.length (flat l) ∧ Below B w1 wr

theorem own_below {W W1 : World} {B : Nat} {e : TypeId} {v : Value} {n : Nat} {xs : List Value} (h : W.ownsRow B e 5 v n xs) (hb : Below W.heap.size W W1) : W1.ownsRow B e 5 v n xs :=
  h.kept (row := none) ⟨hb.os, hb.tape, hb.output, hb.size, fun k hk _ => hb.block k hk⟩ (by
    cases hv : v.ownBlock with
    | none => exact .inl rfl
    | some g => exact .inr (by simp))

/-- A side in a block of its own. -/
def box5 (W : World) (b : Nat) (x : Side) : Prop := W.cell? ⟨b, 0, none⟩ = some (.int .i64 x.a) ∧ W.cell? ⟨b, 1, none⟩ = some (.int .i64 x.b) ∧ W.cell? ⟨b, 2, none⟩ = some (.int .i64 x.c) ∧ W.cell? ⟨b, 3, none⟩ = some (.int .i64 x.p) ∧ W.cell? ⟨b, 4, none⟩ = some (.int .i64 x.s)
theorem box5_map {W W1 : World} {b : Nat} {x : Side} (h : box5 W b x) (hk : ∀ i v, W.cell? ⟨b, i, none⟩ = some v → W1.cell? ⟨b, i, none⟩ = some v) : box5 W1 b x :=
  ⟨hk _ _ h.1, hk _ _ h.2.1, hk _ _ h.2.2.1, hk _ _ h.2.2.2.1, hk _ _ h.2.2.2.2⟩
theorem box5_new (W : World) (x : Side) (t : TypeId) : box5 (W.alloc (.cells #[.int .i64 x.a, .int .i64 x.b, .int .i64 x.c, .int .i64 x.p, .int .i64 x.s] t)) W.heap.size x :=
  ⟨kc_new rfl rfl, kc_new rfl rfl, kc_new rfl rfl, kc_new rfl rfl, kc_new rfl rfl⟩

/-- A round of the inner loop: the row and the box. -/
structure InR (B : Nat) (w0 : World) (bx : Nat) (x : Side) (v : Value) (l : List Side) (W : World) : Prop where
  own : W.ownsRow B 102 5 v l.length (flat l)
  below : Below B w0 W
  box : box5 W bx x
  ne : v.ownBlock ≠ some bx

theorem InR.step {B : Nat} {w0 w2 w3 W : World} {bx : Nat} {x y : Side} {v v' : Value} {l : List Side} {O : Obj} (h : InR B w0 bx x v l W) (hB : B ≤ W.heap.size) (hb : Below W.heap.size W w2)
    (hown : w3.ownsRow B 102 5 v' (l.length + 1) (flat l ++ y.enc)) (hg : (w2.alloc O).grownBy w3 v.ownBlock) (hat : v'.ownBlock = v.ownBlock ∨ v'.ownBlock = some (w2.alloc O).heap.size) : InR B w0 bx x v' (l ++ [y]) w3 := by
  have hbx : bx < W.heap.size := World.block_lt_of_cell? W _ h.box.1
  have hs := hb.size
  refine ⟨?_, ?_, ?_, ?_⟩
  · rw [flat_snoc, List.length_append]; exact hown
  · refine (((h.below.trans (hb.mono hB)).alloc (by omega) O)).grown hg (by rw [World.size_alloc]; omega) (fun k hk => ?_)
    exact (h.own.lt k hk).1
  · refine box5_map h.box fun i u hu => ?_
    exact hg.cell (kc_alloc O (kc_below hb hu)) (fun e => h.ne e.symm)
  · rcases hat with e | e <;> rw [e]
    · exact h.ne
    · rw [World.size_alloc]
      intro e
      injection e with e
      omega

theorem sortWorld_below (W : World) (B g n : Nat) (D : Array Side) (os : Array Obj) (hB : B ≤ g) (hg : g < W.heap.size) : Below B W (sortWorldK Side.enc 5 W g 0 n D os) := by
  refine ⟨rfl, rfl, rfl, size_sortWorldK_c Side.enc 5 W g 0 n D os, fun k hk => ?_⟩
  unfold sortWorldK putRowK putRow mapBlock
  rw [heap_grow_old _ _ (by simp [ahead]; omega)]
  simp only [ahead, Array.getElem?_modify]
  rw [if_neg (by omega)]
  rfl

/-- The sides in order. -/
def srt (l : List Side) : List Side := l.mergeSort fun x y => !(ltOf cmpS) y x
theorem srt_len (l : List Side) : (srt l).length = l.length := List.length_mergeSort l

theorem sort_any (g cap : Nat) (l : List Side) (W : World) (hH : HoldsK Side.enc 5 W g 0 l.toArray) (hg : g < W.heap.size) (hl : l.length ≤ 1048576) :
    Calls Try.prog 121 #[.slice (some ⟨g, 0, none⟩) l.length cap, .func (.func 122) #[] #[]] W fun e w' =>
      e = .returned (.tuple #[]) ∧ HoldsK Side.enc 5 w' g 0 (srt l).toArray ∧ Below g W w' := by
  have eg : ∀ args w, (callFunc 122 args).run Try.prog w = .ok (.enter 122 args) w := enters_of Try.func122 (by kernel_rfl) rfl
  have hcon := AnyQ.slices_SortFunc_total Try.sortS 5 Try.isAgg102 Try.sizeOf102 Side.enc enc_len enc_one cmpS swoS 122 #[] g 0 cap l.toArray W eg (cmpLays g 0 _ W) hH hg (by simp; omega) totS
  change Calls Try.prog 121 _ _ _ at hcon
  simp only [List.size_toArray] at hcon
  refine hcon.mono fun e w' ⟨he, n, os, hw⟩ => ⟨he, ?_, ?_⟩
  · rw [hw]
    exact holdsK_sortWorldK_c Side.enc 5 W g 0 l.toArray _ n os hH hg (by simp)
  · rw [hw]
    exact sortWorld_below W g g n _ os (Nat.le_refl _) hg

/-- What gear.sides returns. -/
def sidesL (low high : Int) (stages : Nat) (r : Bool) : List Side := cmpL (srt (gen low high r stages)).toArray (gen low high r stages).length

/-- A row of sides that the call has made. -/
def RowAt (B : Nat) (w w' : World) (l : List Side) (v : Value) : Prop :=
  ∃ g cap, v = .slice (some ⟨g, 0, none⟩) l.length cap ∧ B ≤ g ∧ g < w'.heap.size ∧ HoldsK Side.enc 5 w' g 0 l.toArray ∧ Below B w w'
def SidesPost (low high : Int) (stages : Nat) (r : Bool) (w : World) (e : Ending) (w' : World) : Prop := ∃ v, e = .returned v ∧ RowAt w.heap.size w w' (sidesL low high stages r) v

theorem cells_new (W : World) (l : List Value) (t : TypeId) : ∀ (j : Nat) (u : Value), l[j]? = some u → (W.alloc (.cells l.toArray t)).cell? ((⟨W.heap.size, 0, none⟩ : Addr).add j) = some u := by
  intro j u h
  have e : (⟨W.heap.size, 0, none⟩ : Addr).add j = ⟨W.heap.size, j, none⟩ := by unfold Addr.add; split <;> simp_all
  rw [e]
  exact kc_new rfl (by simpa using h)
theorem one5 (a b c p s : Int) : ∀ u ∈ [Value.int .i64 a, .int .i64 b, .int .i64 c, .int .i64 p, .int .i64 s], u.oneCell' = true := by
  intro u hu
  simp at hu
  rcases hu with rfl | rfl | rfl | rfl | rfl <;> rfl

theorem accAt_nil (w : World) : AccAt w.heap.size w w [] (.slice none 0 0) := ⟨World.ownsRow_nil w _ _ _, Below.refl _ _⟩

set_option maxHeartbeats 4000000 in
set_option maxRecDepth 100000 in
theorem sides_any (low high : Int) (stages : Nat) (r : Bool) (w : World) (h1 : 1 ≤ low) (h2 : low ≤ high) (h3 : high ≤ 200) (h4 : high - low < 64) (hst : stages ≤ 3) :
    Calls Try.prog 105 #[.int .i64 low, .int .i64 high, .int .i64 stages, .bool r] w (SidesPost low high stages r w) := by
  obtain ⟨i0, hi0, hz0, hz1, hz2⟩ := info_parts side_info
  go_enter Try.func105, Try.ntmps105
  go_wp2_with fail
  go_loopg [9, 20] stages (fun gh s9 s20 wr => ∃ k : Nat, k ≤ stages ∧ stages - k ≤ gh ∧ s20 = .int .i64 k ∧ AllAt w.heap.size w wr (gen low high r k) s9)
  case atStart =>
    refine ⟨0, Nat.zero_le _, by omega, rfl, w.heap.size, 1, rfl, Nat.le_refl _, by simp, by simp [gen], by unfold maxLen; omega, ?_, bl_alloc (Below.refl _ _) _⟩
    refine holdsK_mk fun i hi c hc => ?_
    obtain rfl : i = 0 := by simp [gen] at hi; omega
    refine ⟨?_, kf_new rfl _⟩
    rcases (show c = 0 ∨ c = 1 ∨ c = 2 ∨ c = 3 ∨ c = 4 by omega) with rfl | rfl | rfl | rfl | rfl <;> exact kc_new rfl rfl
  case round =>
    obtain ⟨k, hk, hgh, rfl, g, cap, rfl, hgB, hgl, hlc, hcm, hH, hB⟩ := hrel
    have hgen := gen_len (r := r) h2 h1 h3 h4 k (by omega)
    have hgood := fun j => gen_good (r := r) h2 h1 h3 k (by omega)
    by_cases hlt : k < stages
    · obtain ⟨wo, rfl⟩ : ∃ wo : World, wo = wr := ⟨_, rfl⟩
      have hal := fun j => accTo_len (r := r) h2 h1 h3 h4 k j (by omega)
      have hae := accTo_end low high r k
      have has := accTo_succ low high r k
      have HG : Hid (∀ x ∈ gen low high r k, Good low high k x) := gen_good (r := r) h2 h1 h3 k (by omega)
      have HH := Lib.hid hH
      have HAL := Lib.hid hal
      have HAE := Lib.hid hae
      have HAS := Lib.hid has
      have HL : Hid ((gen low high r k).length ≤ 64 ^ k ∧ 1 ≤ (gen low high r k).length) := hgen
      have hl4 : (gen low high r k).length ≤ 4096 := by
        have : 64 ^ k ≤ 64 ^ 2 := Nat.pow_le_pow_right (by omega) (by omega)
        omega
      clear hH hal hae has hgen hgood
      generalize gen low high r k = l at *
      go_wp2_with fail
      go_loopg [11, 25] l.length (fun gh s11 s25 wr => ∃ j : Nat, j ≤ l.length ∧ l.length - j ≤ gh ∧ s25 = .int .i64 j ∧ AccAt wo.heap.size wo wr (accTo low high r k j) s11)
      case atStart => exact ⟨0, Nat.zero_le _, by omega, rfl, by rw [accTo_zero]; exact accAt_nil wo⟩
      case round =>
        obtain ⟨j, hj, hgj, rfl, hown, hbw⟩ := hrel
        by_cases hjl : j < l.length
        · have hx := HG.out l[j] (List.getElem_mem hjl)
          have hc5 := (cells5 HH.out (show j < l.toArray.size by simpa using hjl)).1
          have ex : l.toArray[j]! = l[j] := by rw [getElem!_pos _ j (by simpa using hjl)]; simp
          rw [ex] at hc5
          have HA2 := Lib.hid (HAS.out j hjl)
          generalize l[j] = x at *
          obtain ⟨c0, c1, c2, c3, c4⟩ := hc5
          replace c0 := (hbw.cell (p := ⟨g, j * 5, none⟩) hgl).trans c0
          replace c1 := (hbw.cell (p := ⟨g, j * 5 + 1, none⟩) hgl).trans c1
          replace c2 := (hbw.cell (p := ⟨g, j * 5 + 2, none⟩) hgl).trans c2
          replace c3 := (hbw.cell (p := ⟨g, j * 5 + 3, none⟩) hgl).trans c3
          replace c4 := (hbw.cell (p := ⟨g, j * 5 + 4, none⟩) hgl).trans c4
          have hft := from_to (r := r) hx h2
          have HX := Lib.hid hx
          have HF : Hid (fromOf low r k x = fromOf low r k x) := rfl
          clear hx ex
          go_upto_block 4 with fail
          go_cut [14, 15] (fun s14 s15 wx => s14 = .int .i64 (fromOf low r k x) ∧ s15 = .int .i64 (toOf high r k x) ∧ wx = wr.alloc (.cells #[.int .i64 x.a, .int .i64 x.b, .int .i64 x.c, .int .i64 x.p, .int .i64 x.s] 102))
          case first =>
            rcases (show k = 0 ∨ k = 1 ∨ k = 2 by omega) with hk0 | hk0 | hk0
            · subst hk0
              clear HA2 HX HF HL HAL HAE HAS HG HH c0 c1 c2 c3 c4 hft hown hbw
              go_wp2_with fail
              go_meet
              exact ⟨by simp [fromOf], by simp [toOf], rfl⟩
            · subst hk0
              clear HA2 HX HF HL HAL HAE HAS HG HH c0 c1 c2 c3 c4 hft hown hbw
              cases r
              all_goals
                go_wp2_with fail
                go_meet
                exact ⟨by simp [fromOf, Side.tooth], by simp [toOf, Side.tooth], rfl⟩
            · subst hk0
              clear HA2 HX HF HL HAL HAE HAS HG HH c0 c1 c2 c3 c4 hft hown hbw
              cases r
              all_goals
                go_wp2_with fail
                go_meet
                exact ⟨by simp [fromOf, Side.tooth], by simp [toOf, Side.tooth], rfl⟩
          case rest =>
            obtain ⟨rfl, rfl, rfl⟩ := hcut
            obtain ⟨f1, f2, f3, f4, f5⟩ := hft
            have hN : Hid (ext low high r k x = extTo low r k x (toOf high r k x - fromOf low r k x + 1).toNat) := rfl
            have HE := fun n => Lib.hid (extTo_succ low r k x n)
            have I0 : InR wo.heap.size wo wr.heap.size x u11 (accTo low high r k j ++ extTo low r k x 0) (wr.alloc (.cells #[.int .i64 x.a, .int .i64 x.b, .int .i64 x.c, .int .i64 x.p, .int .i64 x.s] 102)) := by
              have e0 : accTo low high r k j ++ extTo low r k x 0 = accTo low high r k j := by simp [extTo]
              rw [e0]
              exact ⟨hown.alloc _, hbw.alloc hbw.size _, box5_new _ _ _, fun e => by have := (hown.lt _ e).2; omega⟩
            have hlen0 := HAL.out j
            have hbz := hbw.size
            have hbx : wr.heap.size = wr.heap.size := rfl
            have hps : 0 ≤ x.p ∧ x.p ≤ 40000 ∧ 0 ≤ x.s ∧ x.s ≤ 400 := by
              obtain ⟨_, g1, g2, g3, g4⟩ := HX.out
              rcases (show k = 0 ∨ k = 1 ∨ k = 2 by omega) with rfl | rfl | rfl <;> simp at g2 g4 <;> omega
            have hws : Hid (wo.heap.size ≤ (wr.alloc (.cells #[.int .i64 x.a, .int .i64 x.b, .int .i64 x.c, .int .i64 x.p, .int .i64 x.s] 102)).heap.size) := by
              show _ ≤ _
              rw [World.size_alloc]; omega
            generalize hF : fromOf low r k x = F at *
            generalize hT : toOf high r k x = T at *
            clear hown hbw c0 c1 c2 c3 c4 hF hT hbx
            generalize accTo low high r k j = A at *
            generalize wr.heap.size = bx at *
            go_wp2_with fail
            go_loopg [11, 16] (T - F + 1).toNat (fun gh s11 s16 wx => ∃ n : Nat, n ≤ (T - F + 1).toNat ∧ (T - F + 1).toNat - n ≤ gh ∧ s16 = .int .i64 (F + n) ∧ wo.heap.size ≤ wx.heap.size ∧ InR wo.heap.size wo bx x s11 (A ++ extTo low r k x n) wx)
            case atStart => exact ⟨0, Nat.zero_le _, by omega, by simp, hws.out, I0⟩
            case round =>
              clear I0
              obtain ⟨n, hn, hgn, rfl, hwx, hI⟩ := hrel
              have hlt2 : (A ++ extTo low r k x n).length ≤ 1048000 := by
                simp only [List.length_append, extTo, List.length_map, List.length_range]
                omega
              obtain ⟨b0, b1, b2, b3, b4⟩ := hI.box
              by_cases hnt : n < (T - F + 1).toNat
              · obtain ⟨p1, p2, p3, p4⟩ := hps
                have hwith := with_any x k (F + n)
                go_wp2_with fail
                refine (hwith _ (by omega) (by omega) (by omega) p1 p2 p3 p4).mono ?_
                rintro e w2 ⟨rfl, hb2⟩
                have hown2 := own_below hI.own hb2
                have I1 := fun v' w3 O => hI.step (y := x.with k (F + n)) (v' := v') (w3 := w3) (O := O) hwx hb2
                have hw2s : wo.heap.size ≤ w2.heap.size := Nat.le_trans hwx hb2.size
                have E1 := HE n
                clear hI hb2 hwith HE hlen0 HAL HAE HAS HA2 HX HG HH HL
                generalize x.with k (F + n) = y at *
                generalize hXn : extTo low r k x n = Xn at *
                generalize hYl : A ++ Xn = Y at *
                have hY1 : Hid (A ++ extTo low r k x (n + 1) = Y ++ [y]) := by
                  show _ = _
                  rw [E1.out, ← List.append_assoc, hYl]
                clear hXn hYl E1
                obtain ⟨ya, yb, yc, yp, ys⟩ := y
                simp only [Side.val] at *
                have IH := fun v' w3 O => Lib.hid (I1 v' w3 O)
                clear I1
                have q1 := cells_new w2 [.int .i64 ya, .int .i64 yb, .int .i64 yc, .int .i64 yp, .int .i64 ys] 102
                have q2 := one5 ya yb yc yp ys
                have q3 : Y.length + 1 ≤ maxLen := by unfold maxLen; omega
                have q4 : (Y.length + 1) * 40 ≤ 140737488355328 := by omega
                have q5 : wo.heap.size ≤ (w2.alloc (.cells #[.int .i64 ya, .int .i64 yb, .int .i64 yc, .int .i64 yp, .int .i64 ys] 102)).heap.size := by rw [World.size_alloc]; omega
                have Q1 := Lib.hid q1
                have Q2 := Lib.hid q2
                have Q3 := Lib.hid q3
                have Q5 := Lib.hid q5
                clear q1 q2 q3 q5
                go_wp2_with (at_builtin; refine wpList_append_own_at _ rfl _ _ 125 rfl wo.heap.size 102 i0 _ 5 40 Try.underlying125 hi0 hz0 hz1 hz2 rfl (by decide) _ _ _ rfl (hown2.alloc _) ⟨w2.heap.size, 0, none⟩ 1 1 [.int .i64 ya, .int .i64 yb, .int .i64 yc, .int .i64 yp, .int .i64 ys] rfl rfl Q1.out Q2.out Q3.out q4 Q5.out ?_; intro v3 w3 hown3 hg3 _ hat3)
                have I3 := (IH _ _ _).out hown3 hg3 hat3
                have hw3s : wo.heap.size ≤ w3.heap.size := by have := hg3.size; rw [World.size_alloc] at this; omega
                clear IH hown3 hg3 hat3 hown2 Q1 Q2 Q3 q4 Q5
                go_wp2_with fail
                go_roundg ((T - F + 1).toNat - (n + 1))
                case measure => omega
                case rel => exact ⟨n + 1, by omega, Nat.le_refl _, by go_num, hw3s, by rw [hY1.out]; exact I3⟩
              · have hnN : n = (T - F + 1).toNat := by omega
                have R1 : Hid (AccAt wo.heap.size wo wr (accTo low high r k (j + 1)) u11) := by
                  show AccAt _ _ _ _ _
                  rw [HA2.out, hN.out, ← hnN]
                  exact ⟨hI.own, hI.below⟩
                clear hI hnN HE hlen0 HAL HAE HAS HA2 HX HG HH HL b0 b1 b2 b3 b4
                go_wp2_with fail
                go_roundg (l.length - (j + 1))
                case measure => omega
                case rel => exact ⟨j + 1, by omega, Nat.le_refl _, by go_num, R1⟩
        · have hjl2 : j = l.length := by omega
          subst hjl2
          have hown2 := hown
          have hbw2 := hbw
          rw [HAE.out] at hown2
          have R2 : Hid (AllAt w.heap.size w wr (gen low high r (k + 1)) u11) := by
            have hgl2 := gen_len (r := r) h2 h1 h3 h4 (k + 1) (by omega)
            obtain ⟨g2, cap2, hv, hb2, hg2, hc2, hm2, hH2⟩ := holds_of_own hown2 hgl2.2
            exact ⟨g2, cap2, hv, by have := hB.size; omega, hg2, hc2, hm2, hH2, hB.trans (hbw2.mono hB.size)⟩
          clear hown hbw hown2 hbw2 HAL HAE HAS HG HH HL
          go_wp2_with fail
          go_roundg (stages - (k + 1))
          case measure => omega
          case rel => exact ⟨k + 1, by omega, Nat.le_refl _, by go_num, R2⟩
    · have hks : k = stages := by omega
      subst hks
      have hl4 : (gen low high r k).length ≤ 1048576 := by
        have : 64 ^ k ≤ 64 ^ 3 := Nat.pow_le_pow_right (by omega) hst
        omega
      have hsort := fun W => sort_any g cap (gen low high r k) W
      have hcomp := fun W => compact_any g cap (srt (gen low high r k)).toArray W
      have hsl := srt_len (gen low high r k)
      have HS := Lib.hid (show sidesL low high k r = cmpL (srt (gen low high r k)).toArray (srt (gen low high r k)).toArray.size by unfold sidesL; simp [hsl])
      simp only [List.size_toArray, hsl] at hcomp
      have HC := Lib.hid hcomp
      have HO := Lib.hid hsort
      have HSL := Lib.hid hsl
      have HH := Lib.hid hH
      clear hcomp hsort hgen hgood hsl hH
      generalize gen low high r k = l at *
      go_wp2_with fail
      refine (HO.out _ HH.out hgl hl4).mono ?_
      rintro e w1 ⟨rfl, hH1, hb1⟩
      have hg1 : g < w1.heap.size := by have := hb1.size; omega
      go_wp2_with fail
      refine (HC.out _ hH1 hg1 hl4 hlc hcm).mono ?_
      rintro e w2 ⟨rfl, hH2, hb2⟩
      have hg2 : g < w2.heap.size := by have := hb2.size; omega
      have R3 : Hid (SidesPost low high k r w (.returned (.slice (some ⟨g, 0, none⟩) (cmpL (srt l).toArray (srt l).toArray.size).length cap)) w2) :=
        ⟨_, rfl, g, cap, by rw [HS.out], hgB, hg2, by rw [HS.out]; exact hH2, (hB.trans (hb1.mono hgB)).trans (hb2.mono hgB)⟩
      clear hH1 hH2 hb1 hb2 HC HO HH
      go_wp2_with fail
      go_ret
      exact R3.out
end Go.Proofs.Ytmigddempeecoaa
