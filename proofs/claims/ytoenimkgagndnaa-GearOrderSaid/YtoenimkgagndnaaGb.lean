/- Texts of one proof, joined: Sides, Search, TrP, Ratio, CmpAt, Better, Given, Same, Chk, Simp. -/
import Derived.Test.YtoenimkgagndnaaGa
import Derived.Deep.DeepCutAuto
import Derived.Deep.CutBlock
import Derived.Deep.DeepMust
import Derived.Maps.AppendAt
import Derived.Lib.SmallJoins
import Derived.LoopTactic
import Derived.LoopN
import Derived.RegionCalls
import Derived.Deep.RegionWith
/- gear.sides: the walk. -/
namespace Go.Proofs.Ytoenimkgagndnaa
set_option linter.unusedVariables false
set_option linter.unusedSimpArgs false
open Go.RowKit Go.Shelf Go.Lib Go.Sort

theorem side_info : (Try.prog.info? 102).map (fun i => (i.zero, i.size, i.bytes)) = some (some (.agg #[.int .i64 0, .int .i64 0, .int .i64 0, .int .i64 0, .int .i64 0]), 5, 40) := by kernel_rfl

/-- The sides of k stages lie in a row of the call's own. -/
def AllAt (B : Nat) (w wr : World) (l : List Side) (v : Value) : Prop :=
  ∃ g cap, v = .slice (some ⟨g, 0, none⟩) l.length cap ∧ B ≤ g ∧ g < wr.heap.size ∧ l.length ≤ cap ∧ cap ≤ maxLen ∧ HoldsK Side.enc 5 wr g 0 l.toArray ∧ Below B w wr

/-- The longer sides that have been made. -/
def AccAt (B : Nat) (w1 wr : World) (l : List Side) (v : Value) : Prop := wr.ownsRow B 102 5 v l.length (flat l) ∧ Below B w1 wr

theorem own_below {W W1 : World} {B : Nat} {e : TypeId} {v : Value} {n : Nat} {xs : List Value} (h : W.ownsRow B e 5 v n xs) (hb : Below W.heap.size W W1) : W1.ownsRow B e 5 v n xs :=
  h.kept (row := none) ⟨hb.os, hb.tape, hb.output, hb.size, fun k hk _ => hb.block k hk⟩ (by
    cases hv : v.ownBlock with
    | none => exact .inl rfl
    | some g => exact .inr (by simp))

/-- A side in a block of its own. -/
def box5 (W : World) (b : Nat) (x : Side) : Prop := W.cell? ⟨b, 0, none⟩ = some (.int .i64 x.a) ∧ W.cell? ⟨b, 1, none⟩ = some (.int .i64 x.b) ∧ W.cell? ⟨b, 2, none⟩ = some (.int .i64 x.c) ∧ W.cell? ⟨b, 3, none⟩ = some (.int .i64 x.p) ∧ W.cell? ⟨b, 4, none⟩ = some (.int .i64 x.s)
theorem box5_map {W W1 : World} {b : Nat} {x : Side} (h : box5 W b x) (hk : ∀ i v, W.cell? ⟨b, i, none⟩ = some v → W1.cell? ⟨b, i, none⟩ = some v) : box5 W1 b x :=
  ⟨hk _ _ h.1, hk _ _ h.2.1, hk _ _ h.2.2.1, hk _ _ h.2.2.2.1, hk _ _ h.2.2.2.2⟩
theorem box5_new (W : World) (x : Side) (t : TypeId) : box5 (W.alloc (.cells #[.int .i64 x.a, .int .i64 x.b, .int .i64 x.c, .int .i64 x.p, .int .i64 x.s] t)) W.heap.size x :=
  ⟨kc_new rfl rfl, kc_new rfl rfl, kc_new rfl rfl, kc_new rfl rfl, kc_new rfl rfl⟩

/-- A round of the inner loop: the row and the box. -/
structure InR (B : Nat) (w0 : World) (bx : Nat) (x : Side) (v : Value) (l : List Side) (W : World) : Prop where
  own : W.ownsRow B 102 5 v l.length (flat l)
  below : Below B w0 W
  box : box5 W bx x
  ne : v.ownBlock ≠ some bx

theorem InR.step {B : Nat} {w0 w2 w3 W : World} {bx : Nat} {x y : Side} {v v' : Value} {l : List Side} {O : Obj} (h : InR B w0 bx x v l W) (hB : B ≤ W.heap.size) (hb : Below W.heap.size W w2)
    (hown : w3.ownsRow B 102 5 v' (l.length + 1) (flat l ++ y.enc)) (hg : (w2.alloc O).grownBy w3 v.ownBlock) (hat : v'.ownBlock = v.ownBlock ∨ v'.ownBlock = some (w2.alloc O).heap.size) : InR B w0 bx x v' (l ++ [y]) w3 := by
  have hbx : bx < W.heap.size := World.block_lt_of_cell? W _ h.box.1
  have hs := hb.size
  refine ⟨?_, ?_, ?_, ?_⟩
  · rw [flat_snoc, List.length_append]; exact hown
  · refine (((h.below.trans (hb.mono hB)).alloc (by omega) O)).grown hg (by rw [World.size_alloc]; omega) (fun k hk => ?_)
    exact (h.own.lt k hk).1
  · refine box5_map h.box fun i u hu => ?_
    exact hg.cell (kc_alloc O (kc_below hb hu)) (fun e => h.ne e.symm)
  · rcases hat with e | e <;> rw [e]
    · exact h.ne
    · rw [World.size_alloc]
      intro e
      injection e with e
      omega

theorem sortWorld_below (W : World) (B g n : Nat) (D : Array Side) (os : Array Obj) (hB : B ≤ g) (hg : g < W.heap.size) : Below B W (sortWorldK Side.enc 5 W g 0 n D os) := by
  refine ⟨rfl, rfl, rfl, size_sortWorldK_c Side.enc 5 W g 0 n D os, fun k hk => ?_⟩
  unfold sortWorldK putRowK putRow mapBlock
  rw [heap_grow_old _ _ (by simp [ahead]; omega)]
  simp only [ahead, Array.getElem?_modify]
  rw [if_neg (by omega)]
  rfl

/-- The sides in order. -/
def srt (l : List Side) : List Side := l.mergeSort fun x y => !(ltOf cmpS) y x
theorem srt_len (l : List Side) : (srt l).length = l.length := List.length_mergeSort l

theorem sort_any (g cap : Nat) (l : List Side) (W : World) (hH : HoldsK Side.enc 5 W g 0 l.toArray) (hg : g < W.heap.size) (hl : l.length ≤ 1048576) :
    Calls Try.prog 121 #[.slice (some ⟨g, 0, none⟩) l.length cap, .func (.func 122) #[] #[]] W fun e w' =>
      e = .returned (.tuple #[]) ∧ HoldsK Side.enc 5 w' g 0 (srt l).toArray ∧ Below g W w' := by
  have eg : ∀ args w, (callFunc 122 args).run Try.prog w = .ok (.enter 122 args) w := enters_of Try.func122 (by kernel_rfl) rfl
  have hcon := AnyQ.slices_SortFunc_total Try.sortS 5 Try.isAgg102 Try.sizeOf102 Side.enc enc_len enc_one cmpS swoS 122 #[] g 0 cap l.toArray W eg (cmpLays g 0 _ W) hH hg (by simp; omega) totS
  change Calls Try.prog 121 _ _ _ at hcon
  simp only [List.size_toArray] at hcon
  refine hcon.mono fun e w' ⟨he, n, os, hw⟩ => ⟨he, ?_, ?_⟩
  · rw [hw]
    exact holdsK_sortWorldK_c Side.enc 5 W g 0 l.toArray _ n os hH hg (by simp)
  · rw [hw]
    exact sortWorld_below W g g n _ os (Nat.le_refl _) hg

/-- What gear.sides returns. -/
def sidesL (low high : Int) (stages : Nat) (r : Bool) : List Side := cmpL (srt (gen low high r stages)).toArray (gen low high r stages).length

/-- A row of sides that the call has made. -/
def RowAt (B : Nat) (w w' : World) (l : List Side) (v : Value) : Prop :=
  ∃ g cap, v = .slice (some ⟨g, 0, none⟩) l.length cap ∧ B ≤ g ∧ g < w'.heap.size ∧ HoldsK Side.enc 5 w' g 0 l.toArray ∧ Below B w w'
def SidesPost (low high : Int) (stages : Nat) (r : Bool) (w : World) (e : Ending) (w' : World) : Prop := ∃ v, e = .returned v ∧ RowAt w.heap.size w w' (sidesL low high stages r) v

theorem cells_new (W : World) (l : List Value) (t : TypeId) : ∀ (j : Nat) (u : Value), l[j]? = some u → (W.alloc (.cells l.toArray t)).cell? ((⟨W.heap.size, 0, none⟩ : Addr).add j) = some u := by
  intro j u h
  have e : (⟨W.heap.size, 0, none⟩ : Addr).add j = ⟨W.heap.size, j, none⟩ := by unfold Addr.add; split <;> simp_all
  rw [e]
  exact kc_new rfl (by simpa using h)
theorem one5 (a b c p s : Int) : ∀ u ∈ [Value.int .i64 a, .int .i64 b, .int .i64 c, .int .i64 p, .int .i64 s], u.oneCell' = true := by
  intro u hu
  simp at hu
  rcases hu with rfl | rfl | rfl | rfl | rfl <;> rfl

theorem accAt_nil (w : World) : AccAt w.heap.size w w [] (.slice none 0 0) := ⟨World.ownsRow_nil w _ _ _, Below.refl _ _⟩

set_option maxHeartbeats 4000000 in
set_option maxRecDepth 100000 in
theorem sides_any (low high : Int) (stages : Nat) (r : Bool) (w : World) (h1 : 1 ≤ low) (h2 : low ≤ high) (h3 : high ≤ 200) (h4 : high - low < 64) (hst : stages ≤ 3) :
    Calls Try.prog 105 #[.int .i64 low, .int .i64 high, .int .i64 stages, .bool r] w (SidesPost low high stages r w) := by
  obtain ⟨i0, hi0, hz0, hz1, hz2⟩ := info_parts side_info
  go_enter Try.func105, Try.ntmps105
  go_wp2_with fail
  go_loopg [9, 20] stages (fun gh s9 s20 wr => ∃ k : Nat, k ≤ stages ∧ stages - k ≤ gh ∧ s20 = .int .i64 k ∧ AllAt w.heap.size w wr (gen low high r k) s9)
  case atStart =>
    refine ⟨0, Nat.zero_le _, by omega, rfl, w.heap.size, 1, rfl, Nat.le_refl _, by simp, by simp [gen], by unfold maxLen; omega, ?_, bl_alloc (Below.refl _ _) _⟩
    refine holdsK_mk fun i hi c hc => ?_
    obtain rfl : i = 0 := by simp [gen] at hi; omega
    refine ⟨?_, kf_new rfl _⟩
    rcases (show c = 0 ∨ c = 1 ∨ c = 2 ∨ c = 3 ∨ c = 4 by omega) with rfl | rfl | rfl | rfl | rfl <;> exact kc_new rfl rfl
  case round =>
    obtain ⟨k, hk, hgh, rfl, g, cap, rfl, hgB, hgl, hlc, hcm, hH, hB⟩ := hrel
    have hgen := gen_len (r := r) h2 h1 h3 h4 k (by omega)
    have hgood := fun j => gen_good (r := r) h2 h1 h3 k (by omega)
    by_cases hlt : k < stages
    · obtain ⟨wo, rfl⟩ : ∃ wo : World, wo = wr := ⟨_, rfl⟩
      have hal := fun j => accTo_len (r := r) h2 h1 h3 h4 k j (by omega)
      have hae := accTo_end low high r k
      have has := accTo_succ low high r k
      have HG : Hid (∀ x ∈ gen low high r k, Good low high k x) := gen_good (r := r) h2 h1 h3 k (by omega)
      have HH := Lib.hid hH
      have HAL := Lib.hid hal
      have HAE := Lib.hid hae
      have HAS := Lib.hid has
      have HL : Hid ((gen low high r k).length ≤ 64 ^ k ∧ 1 ≤ (gen low high r k).length) := hgen
      have hl4 : (gen low high r k).length ≤ 4096 := by
        have : 64 ^ k ≤ 64 ^ 2 := Nat.pow_le_pow_right (by omega) (by omega)
        omega
      clear hH hal hae has hgen hgood
      generalize gen low high r k = l at *
      go_wp2_with fail
      go_loopg [11, 25] l.length (fun gh s11 s25 wr => ∃ j : Nat, j ≤ l.length ∧ l.length - j ≤ gh ∧ s25 = .int .i64 j ∧ AccAt wo.heap.size wo wr (accTo low high r k j) s11)
      case atStart => exact ⟨0, Nat.zero_le _, by omega, rfl, by rw [accTo_zero]; exact accAt_nil wo⟩
      case round =>
        obtain ⟨j, hj, hgj, rfl, hown, hbw⟩ := hrel
        by_cases hjl : j < l.length
        · have hx := HG.out l[j] (List.getElem_mem hjl)
          have hc5 := (cells5 HH.out (show j < l.toArray.size by simpa using hjl)).1
          have ex : l.toArray[j]! = l[j] := by rw [getElem!_pos _ j (by simpa using hjl)]; simp
          rw [ex] at hc5
          have HA2 := Lib.hid (HAS.out j hjl)
          generalize l[j] = x at *
          obtain ⟨c0, c1, c2, c3, c4⟩ := hc5
          replace c0 := (hbw.cell (p := ⟨g, j * 5, none⟩) hgl).trans c0
          replace c1 := (hbw.cell (p := ⟨g, j * 5 + 1, none⟩) hgl).trans c1
          replace c2 := (hbw.cell (p := ⟨g, j * 5 + 2, none⟩) hgl).trans c2
          replace c3 := (hbw.cell (p := ⟨g, j * 5 + 3, none⟩) hgl).trans c3
          replace c4 := (hbw.cell (p := ⟨g, j * 5 + 4, none⟩) hgl).trans c4
          have hft := from_to (r := r) hx h2
          have HX := Lib.hid hx
          have HF : Hid (fromOf low r k x = fromOf low r k x) := rfl
          clear hx ex
          go_upto_block 4 with fail
          go_cut [14, 15] (fun s14 s15 wx => s14 = .int .i64 (fromOf low r k x) ∧ s15 = .int .i64 (toOf high r k x) ∧ wx = wr.alloc (.cells #[.int .i64 x.a, .int .i64 x.b, .int .i64 x.c, .int .i64 x.p, .int .i64 x.s] 102))
          case first =>
            rcases (show k = 0 ∨ k = 1 ∨ k = 2 by omega) with hk0 | hk0 | hk0
            · subst hk0
              clear HA2 HX HF HL HAL HAE HAS HG HH c0 c1 c2 c3 c4 hft hown hbw
              go_wp2_with fail
              go_meet
              exact ⟨by simp [fromOf], by simp [toOf], rfl⟩
            · subst hk0
              clear HA2 HX HF HL HAL HAE HAS HG HH c0 c1 c2 c3 c4 hft hown hbw
              cases r
              all_goals
                go_wp2_with fail
                go_meet
                exact ⟨by simp [fromOf, Side.tooth], by simp [toOf, Side.tooth], rfl⟩
            · subst hk0
              clear HA2 HX HF HL HAL HAE HAS HG HH c0 c1 c2 c3 c4 hft hown hbw
              cases r
              all_goals
                go_wp2_with fail
                go_meet
                exact ⟨by simp [fromOf, Side.tooth], by simp [toOf, Side.tooth], rfl⟩
          case rest =>
            obtain ⟨rfl, rfl, rfl⟩ := hcut
            obtain ⟨f1, f2, f3, f4, f5⟩ := hft
            have hN : Hid (ext low high r k x = extTo low r k x (toOf high r k x - fromOf low r k x + 1).toNat) := rfl
            have HE := fun n => Lib.hid (extTo_succ low r k x n)
            have I0 : InR wo.heap.size wo wr.heap.size x u11 (accTo low high r k j ++ extTo low r k x 0) (wr.alloc (.cells #[.int .i64 x.a, .int .i64 x.b, .int .i64 x.c, .int .i64 x.p, .int .i64 x.s] 102)) := by
              have e0 : accTo low high r k j ++ extTo low r k x 0 = accTo low high r k j := by simp [extTo]
              rw [e0]
              exact ⟨hown.alloc _, hbw.alloc hbw.size _, box5_new _ _ _, fun e => by have := (hown.lt _ e).2; omega⟩
            have hlen0 := HAL.out j
            have hbz := hbw.size
            have hbx : wr.heap.size = wr.heap.size := rfl
            have hps : 0 ≤ x.p ∧ x.p ≤ 40000 ∧ 0 ≤ x.s ∧ x.s ≤ 400 := by
              obtain ⟨_, g1, g2, g3, g4⟩ := HX.out
              rcases (show k = 0 ∨ k = 1 ∨ k = 2 by omega) with rfl | rfl | rfl <;> simp at g2 g4 <;> omega
            have hws : Hid (wo.heap.size ≤ (wr.alloc (.cells #[.int .i64 x.a, .int .i64 x.b, .int .i64 x.c, .int .i64 x.p, .int .i64 x.s] 102)).heap.size) := by
              show _ ≤ _
              rw [World.size_alloc]; omega
            generalize hF : fromOf low r k x = F at *
            generalize hT : toOf high r k x = T at *
            clear hown hbw c0 c1 c2 c3 c4 hF hT hbx
            generalize accTo low high r k j = A at *
            generalize wr.heap.size = bx at *
            go_wp2_with fail
            go_loopg [11, 16] (T - F + 1).toNat (fun gh s11 s16 wx => ∃ n : Nat, n ≤ (T - F + 1).toNat ∧ (T - F + 1).toNat - n ≤ gh ∧ s16 = .int .i64 (F + n) ∧ wo.heap.size ≤ wx.heap.size ∧ InR wo.heap.size wo bx x s11 (A ++ extTo low r k x n) wx)
            case atStart => exact ⟨0, Nat.zero_le _, by omega, by simp, hws.out, I0⟩
            case round =>
              clear I0
              obtain ⟨n, hn, hgn, rfl, hwx, hI⟩ := hrel
              have hlt2 : (A ++ extTo low r k x n).length ≤ 1048000 := by
                simp only [List.length_append, extTo, List.length_map, List.length_range]
                omega
              obtain ⟨b0, b1, b2, b3, b4⟩ := hI.box
              by_cases hnt : n < (T - F + 1).toNat
              · obtain ⟨p1, p2, p3, p4⟩ := hps
                have hwith := with_any x k (F + n)
                go_wp2_with fail
                refine (hwith _ (by omega) (by omega) (by omega) p1 p2 p3 p4).mono ?_
                rintro e w2 ⟨rfl, hb2⟩
                have hown2 := own_below hI.own hb2
                have I1 := fun v' w3 O => hI.step (y := x.with k (F + n)) (v' := v') (w3 := w3) (O := O) hwx hb2
                have hw2s : wo.heap.size ≤ w2.heap.size := Nat.le_trans hwx hb2.size
                have E1 := HE n
                clear hI hb2 hwith HE hlen0 HAL HAE HAS HA2 HX HG HH HL
                generalize x.with k (F + n) = y at *
                generalize hXn : extTo low r k x n = Xn at *
                generalize hYl : A ++ Xn = Y at *
                have hY1 : Hid (A ++ extTo low r k x (n + 1) = Y ++ [y]) := by
                  show _ = _
                  rw [E1.out, ← List.append_assoc, hYl]
                clear hXn hYl E1
                obtain ⟨ya, yb, yc, yp, ys⟩ := y
                simp only [Side.val] at *
                have IH := fun v' w3 O => Lib.hid (I1 v' w3 O)
                clear I1
                have q1 := cells_new w2 [.int .i64 ya, .int .i64 yb, .int .i64 yc, .int .i64 yp, .int .i64 ys] 102
                have q2 := one5 ya yb yc yp ys
                have q3 : Y.length + 1 ≤ maxLen := by unfold maxLen; omega
                have q4 : (Y.length + 1) * 40 ≤ 140737488355328 := by omega
                have q5 : wo.heap.size ≤ (w2.alloc (.cells #[.int .i64 ya, .int .i64 yb, .int .i64 yc, .int .i64 yp, .int .i64 ys] 102)).heap.size := by rw [World.size_alloc]; omega
                have Q1 := Lib.hid q1
                have Q2 := Lib.hid q2
                have Q3 := Lib.hid q3
                have Q5 := Lib.hid q5
                clear q1 q2 q3 q5
                go_wp2_with (at_builtin; refine wpList_append_own_at _ rfl _ _ 125 rfl wo.heap.size 102 i0 _ 5 40 Try.underlying125 hi0 hz0 hz1 hz2 rfl (by decide) _ _ _ rfl (hown2.alloc _) ⟨w2.heap.size, 0, none⟩ 1 1 [.int .i64 ya, .int .i64 yb, .int .i64 yc, .int .i64 yp, .int .i64 ys] rfl rfl Q1.out Q2.out Q3.out q4 Q5.out ?_; intro v3 w3 hown3 hg3 _ hat3)
                have I3 := (IH _ _ _).out hown3 hg3 hat3
                have hw3s : wo.heap.size ≤ w3.heap.size := by have := hg3.size; rw [World.size_alloc] at this; omega
                clear IH hown3 hg3 hat3 hown2 Q1 Q2 Q3 q4 Q5
                go_wp2_with fail
                go_roundg ((T - F + 1).toNat - (n + 1))
                case measure => omega
                case rel => exact ⟨n + 1, by omega, Nat.le_refl _, by go_num, hw3s, by rw [hY1.out]; exact I3⟩
              · have hnN : n = (T - F + 1).toNat := by omega
                have R1 : Hid (AccAt wo.heap.size wo wr (accTo low high r k (j + 1)) u11) := by
                  show AccAt _ _ _ _ _
                  rw [HA2.out, hN.out, ← hnN]
                  exact ⟨hI.own, hI.below⟩
                clear hI hnN HE hlen0 HAL HAE HAS HA2 HX HG HH HL b0 b1 b2 b3 b4
                go_wp2_with fail
                go_roundg (l.length - (j + 1))
                case measure => omega
                case rel => exact ⟨j + 1, by omega, Nat.le_refl _, by go_num, R1⟩
        · have hjl2 : j = l.length := by omega
          subst hjl2
          have hown2 := hown
          have hbw2 := hbw
          rw [HAE.out] at hown2
          have R2 : Hid (AllAt w.heap.size w wr (gen low high r (k + 1)) u11) := by
            have hgl2 := gen_len (r := r) h2 h1 h3 h4 (k + 1) (by omega)
            obtain ⟨g2, cap2, hv, hb2, hg2, hc2, hm2, hH2⟩ := holds_of_own hown2 hgl2.2
            exact ⟨g2, cap2, hv, by have := hB.size; omega, hg2, hc2, hm2, hH2, hB.trans (hbw2.mono hB.size)⟩
          clear hown hbw hown2 hbw2 HAL HAE HAS HG HH HL
          go_wp2_with fail
          go_roundg (stages - (k + 1))
          case measure => omega
          case rel => exact ⟨k + 1, by omega, Nat.le_refl _, by go_num, R2⟩
    · have hks : k = stages := by omega
      subst hks
      have hl4 : (gen low high r k).length ≤ 1048576 := by
        have : 64 ^ k ≤ 64 ^ 3 := Nat.pow_le_pow_right (by omega) hst
        omega
      have hsort := fun W => sort_any g cap (gen low high r k) W
      have hcomp := fun W => compact_any g cap (srt (gen low high r k)).toArray W
      have hsl := srt_len (gen low high r k)
      have HS := Lib.hid (show sidesL low high k r = cmpL (srt (gen low high r k)).toArray (srt (gen low high r k)).toArray.size by unfold sidesL; simp [hsl])
      simp only [List.size_toArray, hsl] at hcomp
      have HC := Lib.hid hcomp
      have HO := Lib.hid hsort
      have HSL := Lib.hid hsl
      have HH := Lib.hid hH
      clear hcomp hsort hgen hgood hsl hH
      generalize gen low high r k = l at *
      go_wp2_with fail
      refine (HO.out _ HH.out hgl hl4).mono ?_
      rintro e w1 ⟨rfl, hH1, hb1⟩
      have hg1 : g < w1.heap.size := by have := hb1.size; omega
      go_wp2_with fail
      refine (HC.out _ hH1 hg1 hl4 hlc hcm).mono ?_
      rintro e w2 ⟨rfl, hH2, hb2⟩
      have hg2 : g < w2.heap.size := by have := hb2.size; omega
      have R3 : Hid (SidesPost low high k r w (.returned (.slice (some ⟨g, 0, none⟩) (cmpL (srt l).toArray (srt l).toArray.size).length cap)) w2) :=
        ⟨_, rfl, g, cap, by rw [HS.out], hgB, hg2, by rw [HS.out]; exact hH2, (hB.trans (hb1.mono hgB)).trans (hb2.mono hgB)⟩
      clear hH1 hH2 hb1 hb2 HC HO HH
      go_wp2_with fail
      go_ret
      exact R3.out
end Go.Proofs.Ytoenimkgagndnaa

/- The search in gear.trains: the closure, and sort.Search over it. -/
namespace Go.Proofs.Ytoenimkgagndnaa
set_option linter.unusedVariables false
set_option linter.unusedSimpArgs false
open Go.RowKit Go.Shelf Go.Lib Go.Sort

/-- What the closure of the search reads. -/
structure Seen (W : World) (bw bp bt g cap : Nat) (d : Array Side) (x : Side) (tn td : Int) : Prop where
  wheels : W.cell? ⟨bw, 0, none⟩ = some (.slice (some ⟨g, 0, none⟩) d.size cap)
  pinion : box5 W bp x
  target : fAt W bt tn td
  row : HoldsK Side.enc 5 W g 0 d
theorem Seen.below {W W1 : World} {bw bp bt g cap : Nat} {d : Array Side} {x : Side} {tn td : Int} (h : Seen W bw bp bt g cap d x tn td) (hg : g < W.heap.size) (hb : Below W.heap.size W W1) : Seen W1 bw bp bt g cap d x tn td :=
  ⟨kc_below hb h.wheels, box5_map h.pinion fun _ _ hu => kc_below hb hu, ⟨kc_below hb h.target.1, kc_below hb h.target.2⟩, holdsK_below hb hg h.row⟩

/-- The ratio of a wheel's product and a pinion's product is above the target. -/
def aboveB (d : Array Side) (p tn td : Int) (i : Nat) : Bool := decide (0 < cmpF d[i]!.p p tn td)

set_option maxHeartbeats 1000000 in
set_option maxRecDepth 100000 in
theorem closure_any (bw bp bt g cap : Nat) (d : Array Side) (x : Side) (tn td : Int) (W : World) (h : Seen W bw bp bt g cap d x tn td) (i : Nat) (hi : i < d.size) (hd : d.size ≤ 1048576)
    (hp : ∀ j, j < d.size → 1 ≤ d[j]!.p ∧ d[j]!.p ≤ 8000000) (hx : 1 ≤ x.p) (hx' : x.p ≤ 8000000) (ht : -4611686018427387904 ≤ tn) (ht' : tn ≤ 4611686018427387904) (hu : 1 ≤ td) (hu' : td ≤ 4611686018427387904) :
    Calls Try.prog 107 #[.int .i64 i, .pointer (some ⟨bw, 0, none⟩), .pointer (some ⟨bp, 0, none⟩), .pointer (some ⟨bt, 0, none⟩)] W fun e w' => e = .returned (.bool (aboveB d x.p tn td i)) ∧ Gro W w' := by
  obtain ⟨hw, ⟨b0, b1, b2, b3, b4⟩, ⟨t0, t1⟩, hH⟩ := h
  obtain ⟨⟨c0, c1, c2, c3, c4⟩, _⟩ := cells5 hH hi
  obtain ⟨p1, p2⟩ := hp i hi
  have R := Lib.hid (show aboveB d x.p tn td i = decide (0 < cmpF d[i]!.p x.p tn td) from rfl)
  generalize aboveB d x.p tn td i = r at *
  generalize d[i]! = y at *
  clear hp hH
  have hin : (i : Int) < (d.size : Int) := by omega
  go_enter Try.func107, Try.ntmps107
  go_wp2
  refine still_tail 9 (by kernel_rfl) (by kernel_rfl) ?_
  simp only [List.take_succ_cons, List.take_zero, List.drop_succ_cons, List.drop_zero]
  iterate 9 still_step
  refine wpStill_nil ?_
  go_wp2_with fail
  refine (compare_any _ _ _ _ _ (by omega) (by omega) (by omega) (by omega) (by omega) (by omega) (by omega) (by omega)).mono ?_
  rintro e w1 ⟨rfl, hk⟩
  clear b0 b1 b2 b3 b4 t0 t1 c0 c1 c2 c3 c4 hw
  go_wp2_with fail
  go_ret
  exact ⟨ret_bool R.out.symm, gro_call (gro_drew (gro_refl _)) hk⟩
end Go.Proofs.Ytoenimkgagndnaa

/- The plain side of gear.trains. -/
namespace Go.Proofs.Ytoenimkgagndnaa
set_option linter.unusedVariables false
set_option linter.unusedSimpArgs false
open Go.RowKit Go.Shelf Go.Lib Go.Sort

theorem srt_mem {l : List Side} {x : Side} : x ∈ srt l ↔ x ∈ l := List.mem_mergeSort

theorem srt_pair (l : List Side) : (srt l).Pairwise fun x y => x.p ≤ y.p := by
  have h := List.pairwise_mergeSort (le := fun x y => !(ltOf cmpS) y x) (fun a b c h1 h2 => by
      simp only [Bool.not_eq_true'] at *
      exact swoS.ntrans c b a h2 h1) (fun a b => by
      simp only [Bool.or_eq_true, Bool.not_eq_true']
      cases e : ltOf cmpS b a with
      | false => exact .inl rfl
      | true =>
        refine .inr ?_
        cases e2 : ltOf cmpS a b with
        | false => rfl
        | true => exact absurd (swoS.trans a b a e2 e) (by rw [swoS.irrefl]; simp)) l
  refine h.imp fun {x y} hxy => ?_
  simp only [Bool.not_eq_true'] at hxy
  unfold ltOf at hxy
  rw [decide_eq_false_iff_not, cmpS_lt] at hxy
  unfold Side.lt at hxy
  omega

theorem cmpL_sub (d : Array Side) : (cmpL d d.size).Sublist d.toList := by
  have h := (List.filter_sublist (l := List.range d.size) (p := keepAt d)).map (d[·]!)
  have e : (List.range d.size).map (d[·]!) = d.toList := by
    apply List.ext_getElem
    · simp
    · intro i h1 h2
      simp
      exact getElem!_pos d i (by simpa using h2)
  rw [e] at h
  exact h

theorem sidesL_sub (low high : Int) (st : Nat) (r : Bool) : (sidesL low high st r).Sublist (srt (gen low high r st)) := by
  have := cmpL_sub (srt (gen low high r st)).toArray
  simp only [List.size_toArray, srt_len] at this
  exact this

theorem sidesL_mem {low high : Int} {st : Nat} {r : Bool} {x : Side} (h : x ∈ sidesL low high st r) : x ∈ gen low high r st := srt_mem.1 ((sidesL_sub low high st r).subset h)
theorem sidesL_pair (low high : Int) (st : Nat) (r : Bool) : (sidesL low high st r).Pairwise fun x y => x.p ≤ y.p := (srt_pair _).sublist (sidesL_sub low high st r)
theorem sidesL_len {low high : Int} {st : Nat} {r : Bool} (h1 : 1 ≤ low) (h2 : low ≤ high) (h3 : high ≤ 200) (h4 : high - low < 64) (hst : st ≤ 3) : (sidesL low high st r).length ≤ 262144 := by
  have a := (sidesL_sub low high st r).length_le
  rw [srt_len] at a
  have b := (gen_len (r := r) h2 h1 h3 h4 st hst).1
  have : 64 ^ st ≤ 64 ^ 3 := Nat.pow_le_pow_right (by omega) hst
  omega
theorem sidesL_p {low high : Int} {st : Nat} {r : Bool} (h1 : 1 ≤ low) (h2 : low ≤ high) (h3 : high ≤ 200) (hst : st ≤ 3) {x : Side} (hx : x ∈ sidesL low high st r) : 1 ≤ x.p ∧ x.p ≤ 8000000 := by
  obtain ⟨_, g1, g2, _, _⟩ := gen_good h2 h1 h3 st hst x (sidesL_mem hx)
  rcases (show st = 0 ∨ st = 1 ∨ st = 2 ∨ st = 3 by omega) with rfl | rfl | rfl | rfl <;> simp at g2 <;> omega
theorem sidesL_mono {low high : Int} {st : Nat} {r : Bool} {a b : Nat} (hab : a ≤ b) (hb : b < (sidesL low high st r).length) : ((sidesL low high st r)[a]'(by omega)).p ≤ ((sidesL low high st r)[b]).p := by
  rcases Nat.lt_or_ge a b with h | h
  · exact List.pairwise_iff_getElem.1 (sidesL_pair low high st r) a b (by omega) hb h
  · obtain rfl : a = b := by omega
    exact Int.le_refl _

/-- A train of the search. -/
structure Tr where
  n : Int
  w : Side
  p : Side
deriving DecidableEq, Inhabited
def Tr.cells (t : Tr) : Array Value := #[.int .i64 t.n, .int .i64 t.w.a, .int .i64 t.w.b, .int .i64 t.w.c, .int .i64 t.w.p, .int .i64 t.w.s, .int .i64 t.p.a, .int .i64 t.p.b, .int .i64 t.p.c, .int .i64 t.p.p, .int .i64 t.p.s]
def Tr.val (t : Tr) : Value := .agg t.cells

/-- How many wheels' sides are not above the target. -/
def aboveN (ws : List Side) (p : Side) (tn td : Int) : Nat := (List.range ws.length).countP fun i => !aboveB ws.toArray p.p tn td i
def winLo (ws : List Side) (p : Side) (tn td : Int) : Nat := aboveN ws p tn td - 1
def winHi (ws : List Side) (p : Side) (tn td : Int) : Nat := min (aboveN ws p tn td + 1) ws.length
/-- The trains of one side of pinions: the first k of them. -/
def winTo (st : Nat) (ws : List Side) (p : Side) (tn td : Int) (k : Nat) : List Tr := (List.range k).map fun (i : Nat) => ⟨(st : Int), ws.toArray[winLo ws p tn td + i]!, p⟩
def win (st : Nat) (ws : List Side) (tn td : Int) (p : Side) : List Tr := winTo st ws p tn td (winHi ws p tn td - winLo ws p tn td)
def trainsTo (st : Nat) (ws ps : List Side) (tn td : Int) (j : Nat) : List Tr := (ps.take j).flatMap (win st ws tn td)
def trainsL (st : Nat) (ws ps : List Side) (tn td : Int) : List Tr := ps.flatMap (win st ws tn td)

theorem winTo_succ (st : Nat) (ws : List Side) (p : Side) (tn td : Int) (k : Nat) : winTo st ws p tn td (k + 1) = winTo st ws p tn td k ++ [⟨(st : Int), ws.toArray[winLo ws p tn td + k]!, p⟩] := by simp [winTo, List.range_succ]
theorem trainsTo_succ (st : Nat) (ws ps : List Side) (tn td : Int) (j : Nat) (hj : j < ps.length) : trainsTo st ws ps tn td (j + 1) = trainsTo st ws ps tn td j ++ win st ws tn td ps[j] := by
  unfold trainsTo
  rw [List.take_succ_eq_append_getElem hj, List.flatMap_append]
  simp
theorem trainsTo_end (st : Nat) (ws ps : List Side) (tn td : Int) : trainsTo st ws ps tn td ps.length = trainsL st ws ps tn td := by unfold trainsTo trainsL; rw [List.take_length]
theorem trainsTo_pre (st : Nat) (ws ps : List Side) (tn td : Int) (j : Nat) (hj : j < ps.length) (k : Nat) (hk : k ≤ winHi ws ps[j] tn td - winLo ws ps[j] tn td) : trainsTo st ws ps tn td j ++ winTo st ws ps[j] tn td k <+: trainsL st ws ps tn td := by
  have h1 : winTo st ws ps[j] tn td k <+: win st ws tn td ps[j] := by
    unfold win winTo
    obtain ⟨m, hm⟩ : ∃ m, winHi ws ps[j] tn td - winLo ws ps[j] tn td = k + m := ⟨_, (Nat.add_sub_cancel' hk).symm⟩
    rw [hm, List.range_add, List.map_append]
    exact List.prefix_append _ _
  have h2 : trainsTo st ws ps tn td (j + 1) <+: trainsL st ws ps tn td := by
    unfold trainsTo trainsL
    conv => rhs; rw [← List.take_append_drop (j + 1) ps, List.flatMap_append]
    exact List.prefix_append _ _
  rw [trainsTo_succ st ws ps tn td j hj] at h2
  obtain ⟨t, ht⟩ := h1
  obtain ⟨u, hu⟩ := h2
  exact ⟨t ++ u, by rw [← hu, ← ht]; simp⟩

theorem cmpF_mono {n n' d m e : Int} (hd : 1 ≤ d) (he : 1 ≤ e) (h : n ≤ n') (hc : 0 < cmpF n d m e) : 0 < cmpF n' d m e := by
  unfold cmpF at *
  have h1 : n * e ≤ n' * e := Int.mul_le_mul_of_nonneg_right h (by omega)
  have h2 := cmpZ_cases (n * e) (m * d)
  rw [cmpZ_gt (by omega)]
  omega

/-- The sides of a search are in order of their products. -/
structure Rows (l : List Side) : Prop where
  len : l.length ≤ 262144
  p : ∀ x ∈ l, 1 ≤ x.p ∧ x.p ≤ 8000000
  mono : ∀ a b, a ≤ b → (ha : a < l.length) → (hb : b < l.length) → l[a].p ≤ l[b].p
theorem rows_sides {low high : Int} {st : Nat} (r : Bool) (h1 : 1 ≤ low) (h2 : low ≤ high) (h3 : high ≤ 200) (h4 : high - low < 64) (hst : st ≤ 3) : Rows (sidesL low high st r) :=
  ⟨sidesL_len h1 h2 h3 h4 hst, fun _ hx => sidesL_p h1 h2 h3 hst hx, fun _ _ hab _ hb => sidesL_mono hab hb⟩
theorem Rows.above {ws : List Side} (h : Rows ws) {p : Int} (hp : 1 ≤ p) {tn td : Int} (hd : 1 ≤ td) : ∀ a b, a ≤ b → b < ws.length → aboveB ws.toArray p tn td a = true → aboveB ws.toArray p tn td b = true := by
  intro a b hab hb hc
  unfold aboveB at *
  rw [decide_eq_true_iff] at *
  have ea : ws.toArray[a]! = ws[a]'(by omega) := by rw [getElem!_pos _ a (by simp; omega)]; simp
  have eb : ws.toArray[b]! = ws[b] := by rw [getElem!_pos _ b (by simp; omega)]; simp
  rw [ea] at hc
  rw [eb]
  exact cmpF_mono hp hd (h.mono a b hab (by omega) hb) hc
theorem aboveN_le (ws : List Side) (p : Side) (tn td : Int) : aboveN ws p tn td ≤ ws.length := by
  unfold aboveN
  have := List.countP_le_length (p := fun i => !aboveB ws.toArray p.p tn td i) (l := List.range ws.length)
  simpa using this
end Go.Proofs.Ytoenimkgagndnaa

/- Walks of package gear: a train's ratio. -/
namespace Go.Proofs.Ytoenimkgagndnaa
set_option linter.unusedVariables false
set_option linter.unusedSimpArgs false
open Go.RowKit Go.Lib

def quoN (a b : Int) : Int := a / (Int.gcd a b : Int)
def quoD (a b : Int) : Int := b / (Int.gcd a b : Int)
theorem quo_le {a b : Int} (ha : 1 ≤ a) (hb : 1 ≤ b) : 0 ≤ quoN a b ∧ quoN a b ≤ a ∧ 0 ≤ quoD a b ∧ quoD a b ≤ b :=
  ⟨Int.ediv_nonneg (by omega) (by omega), Int.ediv_le_self _ (by omega), Int.ediv_nonneg (by omega) (by omega), Int.ediv_le_self _ (by omega)⟩

theorem make_pos (a b : Int) (w : World) (ha : 1 ≤ a) (ha' : a ≤ 8000000) (hb : 1 ≤ b) (hb' : b ≤ 8000000) :
    Calls Try.prog 17 #[.int .i64 a, .int .i64 b] w fun e w' => e = .returned (.tuple #[.agg #[.int .i64 (quoN a b), .int .i64 (quoD a b)], .int .i64 0]) ∧ Gro w w' := by
  refine (make_any a b w (by omega) (by omega) (by omega) (by omega)).mono ?_
  rintro e w' ⟨hg, hm⟩
  refine ⟨?_, hg⟩
  obtain ⟨h1, h2, h3, h4⟩ := quo_le ha hb
  have na : (a.natAbs : Int) = a := by omega
  have nb : (b.natAbs : Int) = b := by omega
  rcases hm with ⟨h, _⟩ | ⟨_, h⟩
  · omega
  · have hx : quoN a b = ((a.natAbs / Nat.gcd a.natAbs b.natAbs : Nat) : Int) := by unfold quoN Int.gcd; rw [Int.natCast_ediv, na]
    have hy : quoD a b = ((b.natAbs / Nat.gcd a.natAbs b.natAbs : Nat) : Int) := by unfold quoD Int.gcd; rw [Int.natCast_ediv, nb]
    rcases h _ _ hx hy with ⟨h, _⟩ | ⟨_, h⟩
    · omega
    · have e : (decide (a < 0) != decide (b < 0)) = false := by
        rw [show decide (a < 0) = false by simpa using (by omega : 0 ≤ a), show decide (b < 0) = false by simpa using (by omega : 0 ≤ b)]; rfl
      rw [e] at h
      exact h

/-- A train whose products are in bounds. -/
def Tr.ok (t : Tr) : Prop := (1 ≤ t.w.p ∧ t.w.p ≤ 8000000) ∧ 1 ≤ t.p.p ∧ t.p.p ≤ 8000000

set_option maxRecDepth 100000 in
theorem ratio_any (t : Tr) (w : World) (ht : t.ok) :
    Calls Try.prog 83 #[t.val] w fun e w' => e = .returned (.agg #[.int .i64 (quoN t.w.p t.p.p), .int .i64 (quoD t.w.p t.p.p)]) ∧ Gro w w' := by
  obtain ⟨n, ⟨a, b, c, p, s⟩, ⟨a', b', c', p', s'⟩⟩ := t
  obtain ⟨⟨h1, h2⟩, h3, h4⟩ := ht
  simp only [Tr.val, Tr.cells] at *
  have hM := fun W => make_pos p p' W h1 h2 h3 h4
  generalize quoN p p' = x at *
  generalize quoD p p' = y at *
  have H := fun W => Lib.hid (hM W)
  clear hM h1 h2 h3 h4
  go_enter Try.func83, Try.ntmps83
  go_wp2_with (go_at_call 17; refine (H _).out.mono ?_; rintro e w1 ⟨rfl, hk1⟩; have hb1 := hk1.below; obtain ⟨hc1, hf1⟩ := bcell hb1; simp only [World.size_alloc] at hc1 hf1; have hz1 := hb1.size; simp only [World.size_alloc] at hz1; have hg : w.heap.size + 1 < w1.heap.size := (by omega); have h20 : w1.cell? ⟨w.heap.size + 1, 0, none⟩ = some (.int .i64 0) := (by (repeat (first | with_reducible rfl | with_reducible exact Below.refl _ _ | with_reducible exact gro_refl _ | with_reducible refine kc_drew ?_ | with_reducible refine kc_drewN _ ?_ | with_reducible refine kf_drew ?_ | with_reducible refine kf_drewN _ ?_ | with_reducible refine kc_below hb1 ?_ | ((with_reducible refine kc_new ?_ ?_); (focus (first | with_reducible rfl | (simp only [World.size_alloc, World.size_setCell, World.size_drew, size_drewN]; done))); (focus (first | rfl | (simp; done)))) | ((with_reducible refine kc_set0 ?_ ?_); (focus (first | rfl | (simp; done)))) | with_reducible refine ct_drew ?_ | with_reducible refine ct_drewN _ ?_ | with_reducible refine ct_below hb1 ?_ | ((with_reducible refine ct_new ?_ ?_); (focus (first | with_reducible rfl | (simp only [World.size_alloc, World.size_setCell, World.size_drew, size_drewN]; done))); (focus (first | rfl | (simp; done)))) | with_reducible refine ct_set _ _ ?_ | with_reducible refine ct_alloc _ ?_ | ((with_reducible refine kc_set ?_ ?_); (focus (first | (intro hx; injection hx; omega) | (simp; done)))) | with_reducible refine kc_alloc _ ?_ | ((with_reducible refine kf_new ?_ _); (focus (first | with_reducible rfl | (simp only [World.size_alloc, World.size_setCell, World.size_drew, size_drewN]; done)))) | with_reducible refine kf_set _ _ ?_ | ((with_reducible refine kf_below hb1 ?_ ?_); (focus (simp only [World.size_alloc, World.size_setCell, World.size_drew, size_drewN]; omega))) | ((with_reducible refine kf_alloc _ ?_ ?_); (focus (first | (simp only [World.size_alloc, World.size_setCell, World.size_drew, size_drewN]; omega) | (dsimp only; omega)))) | with_reducible refine bl_alloc ?_ _ | with_reducible refine bl_drew ?_ | with_reducible refine bl_drewN ?_ _ | ((with_reducible refine bl_set ?_ ?_ _); (focus (dsimp only; omega))) | with_reducible refine bl_call ?_ hb1 | with_reducible refine gro_alloc ?_ _ | with_reducible refine gro_drew ?_ | with_reducible refine gro_drewN ?_ _ | ((with_reducible refine gro_set ?_ ?_ _); (focus (first | omega | (dsimp only; omega)))) | with_reducible refine gro_call ?_ hk1))); have h21 : w1.cell? ⟨w.heap.size + 1, 1, none⟩ = some (.int .i64 0) := (by (repeat (first | with_reducible rfl | with_reducible exact Below.refl _ _ | with_reducible exact gro_refl _ | with_reducible refine kc_drew ?_ | with_reducible refine kc_drewN _ ?_ | with_reducible refine kf_drew ?_ | with_reducible refine kf_drewN _ ?_ | with_reducible refine kc_below hb1 ?_ | ((with_reducible refine kc_new ?_ ?_); (focus (first | with_reducible rfl | (simp only [World.size_alloc, World.size_setCell, World.size_drew, size_drewN]; done))); (focus (first | rfl | (simp; done)))) | ((with_reducible refine kc_set0 ?_ ?_); (focus (first | rfl | (simp; done)))) | with_reducible refine ct_drew ?_ | with_reducible refine ct_drewN _ ?_ | with_reducible refine ct_below hb1 ?_ | ((with_reducible refine ct_new ?_ ?_); (focus (first | with_reducible rfl | (simp only [World.size_alloc, World.size_setCell, World.size_drew, size_drewN]; done))); (focus (first | rfl | (simp; done)))) | with_reducible refine ct_set _ _ ?_ | with_reducible refine ct_alloc _ ?_ | ((with_reducible refine kc_set ?_ ?_); (focus (first | (intro hx; injection hx; omega) | (simp; done)))) | with_reducible refine kc_alloc _ ?_ | ((with_reducible refine kf_new ?_ _); (focus (first | with_reducible rfl | (simp only [World.size_alloc, World.size_setCell, World.size_drew, size_drewN]; done)))) | with_reducible refine kf_set _ _ ?_ | ((with_reducible refine kf_below hb1 ?_ ?_); (focus (simp only [World.size_alloc, World.size_setCell, World.size_drew, size_drewN]; omega))) | ((with_reducible refine kf_alloc _ ?_ ?_); (focus (first | (simp only [World.size_alloc, World.size_setCell, World.size_drew, size_drewN]; omega) | (dsimp only; omega)))) | with_reducible refine bl_alloc ?_ _ | with_reducible refine bl_drew ?_ | with_reducible refine bl_drewN ?_ _ | ((with_reducible refine bl_set ?_ ?_ _); (focus (dsimp only; omega))) | with_reducible refine bl_call ?_ hb1 | with_reducible refine gro_alloc ?_ _ | with_reducible refine gro_drew ?_ | with_reducible refine gro_drewN ?_ _ | ((with_reducible refine gro_set ?_ ?_ _); (focus (first | omega | (dsimp only; omega)))) | with_reducible refine gro_call ?_ hk1))); have f20 : w1.frozen? ⟨w.heap.size + 1, 0, none⟩ = false := (by (repeat (first | with_reducible rfl | with_reducible exact Below.refl _ _ | with_reducible exact gro_refl _ | with_reducible refine kc_drew ?_ | with_reducible refine kc_drewN _ ?_ | with_reducible refine kf_drew ?_ | with_reducible refine kf_drewN _ ?_ | with_reducible refine kc_below hb1 ?_ | ((with_reducible refine kc_new ?_ ?_); (focus (first | with_reducible rfl | (simp only [World.size_alloc, World.size_setCell, World.size_drew, size_drewN]; done))); (focus (first | rfl | (simp; done)))) | ((with_reducible refine kc_set0 ?_ ?_); (focus (first | rfl | (simp; done)))) | with_reducible refine ct_drew ?_ | with_reducible refine ct_drewN _ ?_ | with_reducible refine ct_below hb1 ?_ | ((with_reducible refine ct_new ?_ ?_); (focus (first | with_reducible rfl | (simp only [World.size_alloc, World.size_setCell, World.size_drew, size_drewN]; done))); (focus (first | rfl | (simp; done)))) | with_reducible refine ct_set _ _ ?_ | with_reducible refine ct_alloc _ ?_ | ((with_reducible refine kc_set ?_ ?_); (focus (first | (intro hx; injection hx; omega) | (simp; done)))) | with_reducible refine kc_alloc _ ?_ | ((with_reducible refine kf_new ?_ _); (focus (first | with_reducible rfl | (simp only [World.size_alloc, World.size_setCell, World.size_drew, size_drewN]; done)))) | with_reducible refine kf_set _ _ ?_ | ((with_reducible refine kf_below hb1 ?_ ?_); (focus (simp only [World.size_alloc, World.size_setCell, World.size_drew, size_drewN]; omega))) | ((with_reducible refine kf_alloc _ ?_ ?_); (focus (first | (simp only [World.size_alloc, World.size_setCell, World.size_drew, size_drewN]; omega) | (dsimp only; omega)))) | with_reducible refine bl_alloc ?_ _ | with_reducible refine bl_drew ?_ | with_reducible refine bl_drewN ?_ _ | ((with_reducible refine bl_set ?_ ?_ _); (focus (dsimp only; omega))) | with_reducible refine bl_call ?_ hb1 | with_reducible refine gro_alloc ?_ _ | with_reducible refine gro_drew ?_ | with_reducible refine gro_drewN ?_ _ | ((with_reducible refine gro_set ?_ ?_ _); (focus (first | omega | (dsimp only; omega)))) | with_reducible refine gro_call ?_ hk1))); have f21 : w1.frozen? ⟨w.heap.size + 1, 1, none⟩ = false := (by (repeat (first | with_reducible rfl | with_reducible exact Below.refl _ _ | with_reducible exact gro_refl _ | with_reducible refine kc_drew ?_ | with_reducible refine kc_drewN _ ?_ | with_reducible refine kf_drew ?_ | with_reducible refine kf_drewN _ ?_ | with_reducible refine kc_below hb1 ?_ | ((with_reducible refine kc_new ?_ ?_); (focus (first | with_reducible rfl | (simp only [World.size_alloc, World.size_setCell, World.size_drew, size_drewN]; done))); (focus (first | rfl | (simp; done)))) | ((with_reducible refine kc_set0 ?_ ?_); (focus (first | rfl | (simp; done)))) | with_reducible refine ct_drew ?_ | with_reducible refine ct_drewN _ ?_ | with_reducible refine ct_below hb1 ?_ | ((with_reducible refine ct_new ?_ ?_); (focus (first | with_reducible rfl | (simp only [World.size_alloc, World.size_setCell, World.size_drew, size_drewN]; done))); (focus (first | rfl | (simp; done)))) | with_reducible refine ct_set _ _ ?_ | with_reducible refine ct_alloc _ ?_ | ((with_reducible refine kc_set ?_ ?_); (focus (first | (intro hx; injection hx; omega) | (simp; done)))) | with_reducible refine kc_alloc _ ?_ | ((with_reducible refine kf_new ?_ _); (focus (first | with_reducible rfl | (simp only [World.size_alloc, World.size_setCell, World.size_drew, size_drewN]; done)))) | with_reducible refine kf_set _ _ ?_ | ((with_reducible refine kf_below hb1 ?_ ?_); (focus (simp only [World.size_alloc, World.size_setCell, World.size_drew, size_drewN]; omega))) | ((with_reducible refine kf_alloc _ ?_ ?_); (focus (first | (simp only [World.size_alloc, World.size_setCell, World.size_drew, size_drewN]; omega) | (dsimp only; omega)))) | with_reducible refine bl_alloc ?_ _ | with_reducible refine bl_drew ?_ | with_reducible refine bl_drewN ?_ _ | ((with_reducible refine bl_set ?_ ?_ _); (focus (dsimp only; omega))) | with_reducible refine bl_call ?_ hb1 | with_reducible refine gro_alloc ?_ _ | with_reducible refine gro_drew ?_ | with_reducible refine gro_drewN ?_ _ | ((with_reducible refine gro_set ?_ ?_ _); (focus (first | omega | (dsimp only; omega)))) | with_reducible refine gro_call ?_ hk1))))
  exact bodyPost_ret (v := .agg #[.int .i64 x, .int .i64 y]) (by simp [results, Try.results83, go_sem, h20, h21, hg, Nat.ne_of_lt hg]) rfl ⟨rfl, by (repeat (first | with_reducible rfl | with_reducible exact Below.refl _ _ | with_reducible exact gro_refl _ | with_reducible refine kc_drew ?_ | with_reducible refine kc_drewN _ ?_ | with_reducible refine kf_drew ?_ | with_reducible refine kf_drewN _ ?_ | with_reducible refine kc_below hb1 ?_ | ((with_reducible refine kc_new ?_ ?_); (focus (first | with_reducible rfl | (simp only [World.size_alloc, World.size_setCell, World.size_drew, size_drewN]; done))); (focus (first | rfl | (simp; done)))) | ((with_reducible refine kc_set0 ?_ ?_); (focus (first | rfl | (simp; done)))) | with_reducible refine ct_drew ?_ | with_reducible refine ct_drewN _ ?_ | with_reducible refine ct_below hb1 ?_ | ((with_reducible refine ct_new ?_ ?_); (focus (first | with_reducible rfl | (simp only [World.size_alloc, World.size_setCell, World.size_drew, size_drewN]; done))); (focus (first | rfl | (simp; done)))) | with_reducible refine ct_set _ _ ?_ | with_reducible refine ct_alloc _ ?_ | ((with_reducible refine kc_set ?_ ?_); (focus (first | (intro hx; injection hx; omega) | (simp; done)))) | with_reducible refine kc_alloc _ ?_ | ((with_reducible refine kf_new ?_ _); (focus (first | with_reducible rfl | (simp only [World.size_alloc, World.size_setCell, World.size_drew, size_drewN]; done)))) | with_reducible refine kf_set _ _ ?_ | ((with_reducible refine kf_below hb1 ?_ ?_); (focus (simp only [World.size_alloc, World.size_setCell, World.size_drew, size_drewN]; omega))) | ((with_reducible refine kf_alloc _ ?_ ?_); (focus (first | (simp only [World.size_alloc, World.size_setCell, World.size_drew, size_drewN]; omega) | (dsimp only; omega)))) | with_reducible refine bl_alloc ?_ _ | with_reducible refine bl_drew ?_ | with_reducible refine bl_drewN ?_ _ | ((with_reducible refine bl_set ?_ ?_ _); (focus (dsimp only; omega))) | with_reducible refine bl_call ?_ hb1 | with_reducible refine gro_alloc ?_ _ | with_reducible refine gro_drew ?_ | with_reducible refine gro_drewN ?_ _ | ((with_reducible refine gro_set ?_ ?_ _); (focus (first | omega | (dsimp only; omega)))) | with_reducible refine gro_call ?_ hk1))⟩
end Go.Proofs.Ytoenimkgagndnaa

/- slices.Compare of three ints, at offsets 1 and 6 of a block. -/
namespace Go.Proofs.Ytoenimkgagndnaa
set_option linter.unusedVariables false
set_option linter.unusedSimpArgs false
open Go.RowKit

set_option maxHeartbeats 2000000 in
theorem cmp3_at1 (a b c a' b' c' : Int) (g k : Nat) (w : World) (h0 : w.cell? ⟨g, 1, none⟩ = some (.int .i64 a)) (h1 : w.cell? ⟨g, 2, none⟩ = some (.int .i64 b)) (h2 : w.cell? ⟨g, 3, none⟩ = some (.int .i64 c))
    (k0 : w.cell? ⟨k, 1, none⟩ = some (.int .i64 a')) (k1 : w.cell? ⟨k, 2, none⟩ = some (.int .i64 b')) (k2 : w.cell? ⟨k, 3, none⟩ = some (.int .i64 c')) :
    Calls Try.prog 108 #[.slice (some ⟨g, 1, none⟩) 3 3, .slice (some ⟨k, 1, none⟩) 3 3] w fun e w' => e = .returned (.int .i64 (lex3 a b c a' b' c')) ∧ w = w' := by
  by_cases e1 : a = a'
  · have N1 := fun W => Lib.hid (cmpEq e1 W)
    by_cases e2 : b = b'
    · have N2 := fun W => Lib.hid (cmpEq e2 W)
      by_cases e3 : c = c'
      · have N3 := fun W => Lib.hid (cmpEq e3 W)
        have E := Lib.hid (show lex3 a b c a' b' c' = 0 by unfold lex3; rw [if_neg (by omega), if_neg (by omega), cmpZ_eq e3])
        clear e1 e2 e3
        go_enter Try.func108, Try.ntmps108
        go_wp2_with fail
        refine wp_loop_rounds 4 ?_
        rw [rounds_succ]
        go_wp2_with fail
        refine (N1 _).out.mono ?_
        rintro e w' ⟨rfl, rfl⟩
        go_wp2_with fail
        rw [rounds_succ]
        go_wp2_with fail
        refine (N2 _).out.mono ?_
        rintro e w' ⟨rfl, rfl⟩
        go_wp2_with fail
        rw [rounds_succ]
        go_wp2_with fail
        refine (N3 _).out.mono ?_
        rintro e w' ⟨rfl, rfl⟩
        go_wp2_with fail
        rw [rounds_succ]
        go_wp2_with fail
        go_ret
        exact ⟨ret_i64 E.out.symm, rfl⟩
      · obtain ⟨r, hr, hc, N3⟩ := cmpNe e3
        have E := Lib.hid (show lex3 a b c a' b' c' = r by unfold lex3; rw [if_neg (by omega), if_neg (by omega)]; exact hc.out)
        clear e1 e2 e3 hc
        go_enter Try.func108, Try.ntmps108
        go_wp2_with fail
        refine wp_loop_rounds 4 ?_
        rw [rounds_succ]
        go_wp2_with fail
        refine (N1 _).out.mono ?_
        rintro e w' ⟨rfl, rfl⟩
        go_wp2_with fail
        rw [rounds_succ]
        go_wp2_with fail
        refine (N2 _).out.mono ?_
        rintro e w' ⟨rfl, rfl⟩
        go_wp2_with fail
        rw [rounds_succ]
        go_wp2_with fail
        refine (N3 _).out.mono ?_
        rintro e w' ⟨rfl, rfl⟩
        go_wp2_with fail
        go_ret
        exact ⟨ret_i64 E.out.symm, rfl⟩
    · obtain ⟨r, hr, hc, N2⟩ := cmpNe e2
      have E := Lib.hid (show lex3 a b c a' b' c' = r by unfold lex3; rw [if_neg (by omega), if_pos e2]; exact hc.out)
      clear e1 e2 hc
      go_enter Try.func108, Try.ntmps108
      go_wp2_with fail
      refine wp_loop_rounds 4 ?_
      rw [rounds_succ]
      go_wp2_with fail
      refine (N1 _).out.mono ?_
      rintro e w' ⟨rfl, rfl⟩
      go_wp2_with fail
      rw [rounds_succ]
      go_wp2_with fail
      refine (N2 _).out.mono ?_
      rintro e w' ⟨rfl, rfl⟩
      go_wp2_with fail
      go_ret
      exact ⟨ret_i64 E.out.symm, rfl⟩
  · obtain ⟨r, hr, hc, N1⟩ := cmpNe e1
    have E := Lib.hid (show lex3 a b c a' b' c' = r by unfold lex3; rw [if_pos e1]; exact hc.out)
    clear e1 hc
    go_enter Try.func108, Try.ntmps108
    go_wp2_with fail
    refine wp_loop_rounds 4 ?_
    rw [rounds_succ]
    go_wp2_with fail
    refine (N1 _).out.mono ?_
    rintro e w' ⟨rfl, rfl⟩
    go_wp2_with fail
    go_ret
    exact ⟨ret_i64 E.out.symm, rfl⟩

set_option maxHeartbeats 2000000 in
theorem cmp3_at6 (a b c a' b' c' : Int) (g k : Nat) (w : World) (h0 : w.cell? ⟨g, 6, none⟩ = some (.int .i64 a)) (h1 : w.cell? ⟨g, 7, none⟩ = some (.int .i64 b)) (h2 : w.cell? ⟨g, 8, none⟩ = some (.int .i64 c))
    (k0 : w.cell? ⟨k, 6, none⟩ = some (.int .i64 a')) (k1 : w.cell? ⟨k, 7, none⟩ = some (.int .i64 b')) (k2 : w.cell? ⟨k, 8, none⟩ = some (.int .i64 c')) :
    Calls Try.prog 108 #[.slice (some ⟨g, 6, none⟩) 3 3, .slice (some ⟨k, 6, none⟩) 3 3] w fun e w' => e = .returned (.int .i64 (lex3 a b c a' b' c')) ∧ w = w' := by
  by_cases e1 : a = a'
  · have N1 := fun W => Lib.hid (cmpEq e1 W)
    by_cases e2 : b = b'
    · have N2 := fun W => Lib.hid (cmpEq e2 W)
      by_cases e3 : c = c'
      · have N3 := fun W => Lib.hid (cmpEq e3 W)
        have E := Lib.hid (show lex3 a b c a' b' c' = 0 by unfold lex3; rw [if_neg (by omega), if_neg (by omega), cmpZ_eq e3])
        clear e1 e2 e3
        go_enter Try.func108, Try.ntmps108
        go_wp2_with fail
        refine wp_loop_rounds 4 ?_
        rw [rounds_succ]
        go_wp2_with fail
        refine (N1 _).out.mono ?_
        rintro e w' ⟨rfl, rfl⟩
        go_wp2_with fail
        rw [rounds_succ]
        go_wp2_with fail
        refine (N2 _).out.mono ?_
        rintro e w' ⟨rfl, rfl⟩
        go_wp2_with fail
        rw [rounds_succ]
        go_wp2_with fail
        refine (N3 _).out.mono ?_
        rintro e w' ⟨rfl, rfl⟩
        go_wp2_with fail
        rw [rounds_succ]
        go_wp2_with fail
        go_ret
        exact ⟨ret_i64 E.out.symm, rfl⟩
      · obtain ⟨r, hr, hc, N3⟩ := cmpNe e3
        have E := Lib.hid (show lex3 a b c a' b' c' = r by unfold lex3; rw [if_neg (by omega), if_neg (by omega)]; exact hc.out)
        clear e1 e2 e3 hc
        go_enter Try.func108, Try.ntmps108
        go_wp2_with fail
        refine wp_loop_rounds 4 ?_
        rw [rounds_succ]
        go_wp2_with fail
        refine (N1 _).out.mono ?_
        rintro e w' ⟨rfl, rfl⟩
        go_wp2_with fail
        rw [rounds_succ]
        go_wp2_with fail
        refine (N2 _).out.mono ?_
        rintro e w' ⟨rfl, rfl⟩
        go_wp2_with fail
        rw [rounds_succ]
        go_wp2_with fail
        refine (N3 _).out.mono ?_
        rintro e w' ⟨rfl, rfl⟩
        go_wp2_with fail
        go_ret
        exact ⟨ret_i64 E.out.symm, rfl⟩
    · obtain ⟨r, hr, hc, N2⟩ := cmpNe e2
      have E := Lib.hid (show lex3 a b c a' b' c' = r by unfold lex3; rw [if_neg (by omega), if_pos e2]; exact hc.out)
      clear e1 e2 hc
      go_enter Try.func108, Try.ntmps108
      go_wp2_with fail
      refine wp_loop_rounds 4 ?_
      rw [rounds_succ]
      go_wp2_with fail
      refine (N1 _).out.mono ?_
      rintro e w' ⟨rfl, rfl⟩
      go_wp2_with fail
      rw [rounds_succ]
      go_wp2_with fail
      refine (N2 _).out.mono ?_
      rintro e w' ⟨rfl, rfl⟩
      go_wp2_with fail
      go_ret
      exact ⟨ret_i64 E.out.symm, rfl⟩
  · obtain ⟨r, hr, hc, N1⟩ := cmpNe e1
    have E := Lib.hid (show lex3 a b c a' b' c' = r by unfold lex3; rw [if_pos e1]; exact hc.out)
    clear e1 hc
    go_enter Try.func108, Try.ntmps108
    go_wp2_with fail
    refine wp_loop_rounds 4 ?_
    rw [rounds_succ]
    go_wp2_with fail
    refine (N1 _).out.mono ?_
    rintro e w' ⟨rfl, rfl⟩
    go_wp2_with fail
    go_ret
    exact ⟨ret_i64 E.out.symm, rfl⟩

end Go.Proofs.Ytoenimkgagndnaa

/- Walks of package gear: better. -/
namespace Go.Proofs.Ytoenimkgagndnaa
set_option linter.unusedVariables false
set_option linter.unusedSimpArgs false
open Go.RowKit Go.Lib

theorem qt_sum {P : Program} {f : FuncId} {args : Array Value} {W : World} {a k : Nat} {v : Value}
    (h : Calls P f args (W.drewN (a + k)) fun e w' => e = .returned v ∧ W.drewN (a + k) = w') : Calls P f args (W.drewN (a + k)) fun e w'' => e = .returned v ∧ ∃ m, w'' = W.drewN (a + m) :=
  h.mono fun _ _ ⟨he, hm⟩ => ⟨he, k, hm.symm⟩
theorem qt_sum3 {P : Program} {f : FuncId} {args : Array Value} {W : World} {a b k : Nat} {v : Value}
    (h : Calls P f args (W.drewN (a + (b + k))) fun e w' => e = .returned v ∧ W.drewN (a + (b + k)) = w') : Calls P f args (W.drewN (a + (b + k))) fun e w'' => e = .returned v ∧ ∃ m, w'' = W.drewN (a + (b + m)) :=
  h.mono fun _ _ ⟨he, hm⟩ => ⟨he, k, hm.symm⟩

/-- A train whose sums are in bounds. -/
def Tr.sok (t : Tr) : Prop := (0 ≤ t.w.s ∧ t.w.s ≤ 600) ∧ 0 ≤ t.p.s ∧ t.p.s ≤ 600

/-- What better answers. -/
def betF (t u : Tr) : Bool :=
  if t.n ≠ u.n then decide (t.n < u.n)
  else if t.w.s + t.p.s ≠ u.w.s + u.p.s then decide (t.w.s + t.p.s < u.w.s + u.p.s)
  else if lex3 t.w.a t.w.b t.w.c u.w.a u.w.b u.w.c ≠ 0 then decide (lex3 t.w.a t.w.b t.w.c u.w.a u.w.b u.w.c < 0)
  else decide (lex3 t.p.a t.p.b t.p.c u.p.a u.p.b u.p.c < 0)

set_option maxHeartbeats 2000000 in
set_option maxRecDepth 100000 in
theorem better_any (t u : Tr) (w : World) (ht : t.sok) (hu : u.sok) :
    Calls Try.prog 84 #[t.val, u.val] w fun e w' => e = .returned (.bool (betF t u)) ∧ Gro w w' := by
  obtain ⟨n, ⟨a, b, c, p, s⟩, ⟨a', b', c', p', s'⟩⟩ := t
  obtain ⟨m, ⟨d, e, f, q, r⟩, ⟨d', e', f', q', r'⟩⟩ := u
  obtain ⟨⟨h1, h2⟩, h3, h4⟩ := ht
  obtain ⟨⟨h5, h6⟩, h7, h8⟩ := hu
  simp only [Tr.val, Tr.cells] at *
  have E0 := Lib.hid (show betF ⟨n, ⟨a, b, c, p, s⟩, ⟨a', b', c', p', s'⟩⟩ ⟨m, ⟨d, e, f, q, r⟩, ⟨d', e', f', q', r'⟩⟩ =
    if n ≠ m then decide (n < m) else if s + s' ≠ r + r' then decide (s + s' < r + r') else if lex3 a b c d e f ≠ 0 then decide (lex3 a b c d e f < 0) else decide (lex3 a' b' c' d' e' f' < 0) from rfl)
  generalize betF ⟨n, ⟨a, b, c, p, s⟩, ⟨a', b', c', p', s'⟩⟩ ⟨m, ⟨d, e, f, q, r⟩, ⟨d', e', f', q', r'⟩⟩ = R at *
  by_cases e1 : n = m
  · have t1 : (n != m) = false := by simpa using e1
    have E1 := Lib.hid (E0.out.trans (if_neg (by simpa using e1)))
    have b1 : 0 ≤ s + s' ∧ s + s' ≤ 1200 := by omega
    have b2 : 0 ≤ r + r' ∧ r + r' ≤ 1200 := by omega
    have w1 : IntKind.i64.wrap (s + s') = s + s' := IntWalk.i64_in _ (by omega)
    have w2 : IntKind.i64.wrap (r + r') = r + r' := IntWalk.i64_in _ (by omega)
    clear h1 h2 h3 h4 h5 h6 h7 h8 E0 e1
    by_cases e2 : s + s' = r + r'
    · have t2 : (s + s' != r + r') = false := by simpa using e2
      have E2 := Lib.hid (E1.out.trans (if_neg (by simpa using e2)))
      have hc := fun (W : World) g k h0 h1 h2 k0 k1 k2 => Lib.hid (cmp3_at1 a b c d e f g k W h0 h1 h2 k0 k1 k2)
      have hd := fun (W : World) g k h0 h1 h2 k0 k1 k2 => Lib.hid (cmp3_at6 a' b' c' d' e' f' g k W h0 h1 h2 k0 k1 k2)
      generalize lex3 a b c d e f = x at *
      generalize lex3 a' b' c' d' e' f' = y at *
      by_cases e3 : x = 0
      · have t3 : (x != 0) = false := by simpa using e3
        have E := Lib.hid (E2.out.trans (if_neg (by simpa using e3)))
        clear E1 E2 e3 e2
        go_enter Try.func84, Try.ntmps84
        go_wp2_with fail
        go_quiet (fail)
        go_wp2_with fail
        go_quiet ((go_at_call 108; (first | refine qt_sum3 (hc _ _ _ ?_ ?_ ?_ ?_ ?_ ?_).out | refine qt_sum (hc _ _ _ ?_ ?_ ?_ ?_ ?_ ?_).out); all_goals (repeat (first | with_reducible rfl | with_reducible exact Below.refl _ _ | with_reducible exact gro_refl _ | with_reducible refine kc_drew ?_ | with_reducible refine kc_drewN _ ?_ | with_reducible refine kf_drew ?_ | with_reducible refine kf_drewN _ ?_ | ((with_reducible refine kc_new ?_ ?_); (focus (first | with_reducible rfl | (simp only [World.size_alloc, World.size_setCell, World.size_drew, size_drewN]; done))); (focus (first | rfl | (simp; done)))) | ((with_reducible refine kc_set0 ?_ ?_); (focus (first | rfl | (simp; done)))) | with_reducible refine ct_drew ?_ | with_reducible refine ct_drewN _ ?_ | ((with_reducible refine ct_new ?_ ?_); (focus (first | with_reducible rfl | (simp only [World.size_alloc, World.size_setCell, World.size_drew, size_drewN]; done))); (focus (first | rfl | (simp; done)))) | with_reducible refine ct_set _ _ ?_ | with_reducible refine ct_alloc _ ?_ | ((with_reducible refine kc_set ?_ ?_); (focus (first | (intro hx; injection hx; omega) | (simp; done)))) | with_reducible refine kc_alloc _ ?_ | ((with_reducible refine kf_new ?_ _); (focus (first | with_reducible rfl | (simp only [World.size_alloc, World.size_setCell, World.size_drew, size_drewN]; done)))) | with_reducible refine kf_set _ _ ?_ | ((with_reducible refine kf_alloc _ ?_ ?_); (focus (first | (simp only [World.size_alloc, World.size_setCell, World.size_drew, size_drewN]; omega) | (dsimp only; omega)))) | with_reducible refine bl_alloc ?_ _ | with_reducible refine bl_drew ?_ | with_reducible refine bl_drewN ?_ _ | ((with_reducible refine bl_set ?_ ?_ _); (focus (dsimp only; omega))) | with_reducible refine gro_alloc ?_ _ | with_reducible refine gro_drew ?_ | with_reducible refine gro_drewN ?_ _ | ((with_reducible refine gro_set ?_ ?_ _); (focus (first | omega | (dsimp only; omega))))))))
        go_wp2_with fail
        go_quiet ((go_at_call 108; (first | refine qt_sum3 (hd _ _ _ ?_ ?_ ?_ ?_ ?_ ?_).out | refine qt_sum (hd _ _ _ ?_ ?_ ?_ ?_ ?_ ?_).out); all_goals (repeat (first | with_reducible rfl | with_reducible exact Below.refl _ _ | with_reducible exact gro_refl _ | with_reducible refine kc_drew ?_ | with_reducible refine kc_drewN _ ?_ | with_reducible refine kf_drew ?_ | with_reducible refine kf_drewN _ ?_ | ((with_reducible refine kc_new ?_ ?_); (focus (first | with_reducible rfl | (simp only [World.size_alloc, World.size_setCell, World.size_drew, size_drewN]; done))); (focus (first | rfl | (simp; done)))) | ((with_reducible refine kc_set0 ?_ ?_); (focus (first | rfl | (simp; done)))) | with_reducible refine ct_drew ?_ | with_reducible refine ct_drewN _ ?_ | ((with_reducible refine ct_new ?_ ?_); (focus (first | with_reducible rfl | (simp only [World.size_alloc, World.size_setCell, World.size_drew, size_drewN]; done))); (focus (first | rfl | (simp; done)))) | with_reducible refine ct_set _ _ ?_ | with_reducible refine ct_alloc _ ?_ | ((with_reducible refine kc_set ?_ ?_); (focus (first | (intro hx; injection hx; omega) | (simp; done)))) | with_reducible refine kc_alloc _ ?_ | ((with_reducible refine kf_new ?_ _); (focus (first | with_reducible rfl | (simp only [World.size_alloc, World.size_setCell, World.size_drew, size_drewN]; done)))) | with_reducible refine kf_set _ _ ?_ | ((with_reducible refine kf_alloc _ ?_ ?_); (focus (first | (simp only [World.size_alloc, World.size_setCell, World.size_drew, size_drewN]; omega) | (dsimp only; omega)))) | with_reducible refine bl_alloc ?_ _ | with_reducible refine bl_drew ?_ | with_reducible refine bl_drewN ?_ _ | ((with_reducible refine bl_set ?_ ?_ _); (focus (dsimp only; omega))) | with_reducible refine gro_alloc ?_ _ | with_reducible refine gro_drew ?_ | with_reducible refine gro_drewN ?_ _ | ((with_reducible refine gro_set ?_ ?_ _); (focus (first | omega | (dsimp only; omega))))))))
        go_wp2_with fail
        go_ret
        exact ⟨ret_bool E.out.symm, by (repeat (first | with_reducible rfl | with_reducible exact Below.refl _ _ | with_reducible exact gro_refl _ | with_reducible refine kc_drew ?_ | with_reducible refine kc_drewN _ ?_ | with_reducible refine kf_drew ?_ | with_reducible refine kf_drewN _ ?_ | ((with_reducible refine kc_new ?_ ?_); (focus (first | with_reducible rfl | (simp only [World.size_alloc, World.size_setCell, World.size_drew, size_drewN]; done))); (focus (first | rfl | (simp; done)))) | ((with_reducible refine kc_set0 ?_ ?_); (focus (first | rfl | (simp; done)))) | with_reducible refine ct_drew ?_ | with_reducible refine ct_drewN _ ?_ | ((with_reducible refine ct_new ?_ ?_); (focus (first | with_reducible rfl | (simp only [World.size_alloc, World.size_setCell, World.size_drew, size_drewN]; done))); (focus (first | rfl | (simp; done)))) | with_reducible refine ct_set _ _ ?_ | with_reducible refine ct_alloc _ ?_ | ((with_reducible refine kc_set ?_ ?_); (focus (first | (intro hx; injection hx; omega) | (simp; done)))) | with_reducible refine kc_alloc _ ?_ | ((with_reducible refine kf_new ?_ _); (focus (first | with_reducible rfl | (simp only [World.size_alloc, World.size_setCell, World.size_drew, size_drewN]; done)))) | with_reducible refine kf_set _ _ ?_ | ((with_reducible refine kf_alloc _ ?_ ?_); (focus (first | (simp only [World.size_alloc, World.size_setCell, World.size_drew, size_drewN]; omega) | (dsimp only; omega)))) | with_reducible refine bl_alloc ?_ _ | with_reducible refine bl_drew ?_ | with_reducible refine bl_drewN ?_ _ | ((with_reducible refine bl_set ?_ ?_ _); (focus (dsimp only; omega))) | with_reducible refine gro_alloc ?_ _ | with_reducible refine gro_drew ?_ | with_reducible refine gro_drewN ?_ _ | ((with_reducible refine gro_set ?_ ?_ _); (focus (first | omega | (dsimp only; omega))))))⟩
      · have t3 : (x != 0) = true := by simpa using e3
        have E := Lib.hid (E2.out.trans (if_pos (by simpa using e3)))
        clear E1 E2 e3 e2
        go_enter Try.func84, Try.ntmps84
        go_wp2_with fail
        go_quiet (fail)
        go_wp2_with fail
        go_quiet ((go_at_call 108; (first | refine qt_sum3 (hc _ _ _ ?_ ?_ ?_ ?_ ?_ ?_).out | refine qt_sum (hc _ _ _ ?_ ?_ ?_ ?_ ?_ ?_).out); all_goals (repeat (first | with_reducible rfl | with_reducible exact Below.refl _ _ | with_reducible exact gro_refl _ | with_reducible refine kc_drew ?_ | with_reducible refine kc_drewN _ ?_ | with_reducible refine kf_drew ?_ | with_reducible refine kf_drewN _ ?_ | ((with_reducible refine kc_new ?_ ?_); (focus (first | with_reducible rfl | (simp only [World.size_alloc, World.size_setCell, World.size_drew, size_drewN]; done))); (focus (first | rfl | (simp; done)))) | ((with_reducible refine kc_set0 ?_ ?_); (focus (first | rfl | (simp; done)))) | with_reducible refine ct_drew ?_ | with_reducible refine ct_drewN _ ?_ | ((with_reducible refine ct_new ?_ ?_); (focus (first | with_reducible rfl | (simp only [World.size_alloc, World.size_setCell, World.size_drew, size_drewN]; done))); (focus (first | rfl | (simp; done)))) | with_reducible refine ct_set _ _ ?_ | with_reducible refine ct_alloc _ ?_ | ((with_reducible refine kc_set ?_ ?_); (focus (first | (intro hx; injection hx; omega) | (simp; done)))) | with_reducible refine kc_alloc _ ?_ | ((with_reducible refine kf_new ?_ _); (focus (first | with_reducible rfl | (simp only [World.size_alloc, World.size_setCell, World.size_drew, size_drewN]; done)))) | with_reducible refine kf_set _ _ ?_ | ((with_reducible refine kf_alloc _ ?_ ?_); (focus (first | (simp only [World.size_alloc, World.size_setCell, World.size_drew, size_drewN]; omega) | (dsimp only; omega)))) | with_reducible refine bl_alloc ?_ _ | with_reducible refine bl_drew ?_ | with_reducible refine bl_drewN ?_ _ | ((with_reducible refine bl_set ?_ ?_ _); (focus (dsimp only; omega))) | with_reducible refine gro_alloc ?_ _ | with_reducible refine gro_drew ?_ | with_reducible refine gro_drewN ?_ _ | ((with_reducible refine gro_set ?_ ?_ _); (focus (first | omega | (dsimp only; omega))))))))
        go_wp2_with fail
        go_ret
        exact ⟨ret_bool E.out.symm, by (repeat (first | with_reducible rfl | with_reducible exact Below.refl _ _ | with_reducible exact gro_refl _ | with_reducible refine kc_drew ?_ | with_reducible refine kc_drewN _ ?_ | with_reducible refine kf_drew ?_ | with_reducible refine kf_drewN _ ?_ | ((with_reducible refine kc_new ?_ ?_); (focus (first | with_reducible rfl | (simp only [World.size_alloc, World.size_setCell, World.size_drew, size_drewN]; done))); (focus (first | rfl | (simp; done)))) | ((with_reducible refine kc_set0 ?_ ?_); (focus (first | rfl | (simp; done)))) | with_reducible refine ct_drew ?_ | with_reducible refine ct_drewN _ ?_ | ((with_reducible refine ct_new ?_ ?_); (focus (first | with_reducible rfl | (simp only [World.size_alloc, World.size_setCell, World.size_drew, size_drewN]; done))); (focus (first | rfl | (simp; done)))) | with_reducible refine ct_set _ _ ?_ | with_reducible refine ct_alloc _ ?_ | ((with_reducible refine kc_set ?_ ?_); (focus (first | (intro hx; injection hx; omega) | (simp; done)))) | with_reducible refine kc_alloc _ ?_ | ((with_reducible refine kf_new ?_ _); (focus (first | with_reducible rfl | (simp only [World.size_alloc, World.size_setCell, World.size_drew, size_drewN]; done)))) | with_reducible refine kf_set _ _ ?_ | ((with_reducible refine kf_alloc _ ?_ ?_); (focus (first | (simp only [World.size_alloc, World.size_setCell, World.size_drew, size_drewN]; omega) | (dsimp only; omega)))) | with_reducible refine bl_alloc ?_ _ | with_reducible refine bl_drew ?_ | with_reducible refine bl_drewN ?_ _ | ((with_reducible refine bl_set ?_ ?_ _); (focus (dsimp only; omega))) | with_reducible refine gro_alloc ?_ _ | with_reducible refine gro_drew ?_ | with_reducible refine gro_drewN ?_ _ | ((with_reducible refine gro_set ?_ ?_ _); (focus (first | omega | (dsimp only; omega))))))⟩
    · have t2 : (s + s' != r + r') = true := by simpa using e2
      have E := Lib.hid (E1.out.trans (if_pos (by simpa using e2)))
      clear E1 e2
      go_enter Try.func84, Try.ntmps84
      go_wp2_with fail
      go_quiet (fail)
      go_wp2_with fail
      go_ret
      exact ⟨ret_bool E.out.symm, by (repeat (first | with_reducible rfl | with_reducible exact Below.refl _ _ | with_reducible exact gro_refl _ | with_reducible refine kc_drew ?_ | with_reducible refine kc_drewN _ ?_ | with_reducible refine kf_drew ?_ | with_reducible refine kf_drewN _ ?_ | ((with_reducible refine kc_new ?_ ?_); (focus (first | with_reducible rfl | (simp only [World.size_alloc, World.size_setCell, World.size_drew, size_drewN]; done))); (focus (first | rfl | (simp; done)))) | ((with_reducible refine kc_set0 ?_ ?_); (focus (first | rfl | (simp; done)))) | with_reducible refine ct_drew ?_ | with_reducible refine ct_drewN _ ?_ | ((with_reducible refine ct_new ?_ ?_); (focus (first | with_reducible rfl | (simp only [World.size_alloc, World.size_setCell, World.size_drew, size_drewN]; done))); (focus (first | rfl | (simp; done)))) | with_reducible refine ct_set _ _ ?_ | with_reducible refine ct_alloc _ ?_ | ((with_reducible refine kc_set ?_ ?_); (focus (first | (intro hx; injection hx; omega) | (simp; done)))) | with_reducible refine kc_alloc _ ?_ | ((with_reducible refine kf_new ?_ _); (focus (first | with_reducible rfl | (simp only [World.size_alloc, World.size_setCell, World.size_drew, size_drewN]; done)))) | with_reducible refine kf_set _ _ ?_ | ((with_reducible refine kf_alloc _ ?_ ?_); (focus (first | (simp only [World.size_alloc, World.size_setCell, World.size_drew, size_drewN]; omega) | (dsimp only; omega)))) | with_reducible refine bl_alloc ?_ _ | with_reducible refine bl_drew ?_ | with_reducible refine bl_drewN ?_ _ | ((with_reducible refine bl_set ?_ ?_ _); (focus (dsimp only; omega))) | with_reducible refine gro_alloc ?_ _ | with_reducible refine gro_drew ?_ | with_reducible refine gro_drewN ?_ _ | ((with_reducible refine gro_set ?_ ?_ _); (focus (first | omega | (dsimp only; omega))))))⟩
  · have t1 : (n != m) = true := by simpa using e1
    have E := Lib.hid (E0.out.trans (if_pos (by simpa using e1)))
    clear e1 E0
    go_enter Try.func84, Try.ntmps84
    go_wp2_with fail
    go_ret
    exact ⟨ret_bool E.out.symm, by (repeat (first | with_reducible rfl | with_reducible exact Below.refl _ _ | with_reducible exact gro_refl _ | with_reducible refine kc_drew ?_ | with_reducible refine kc_drewN _ ?_ | with_reducible refine kf_drew ?_ | with_reducible refine kf_drewN _ ?_ | ((with_reducible refine kc_new ?_ ?_); (focus (first | with_reducible rfl | (simp only [World.size_alloc, World.size_setCell, World.size_drew, size_drewN]; done))); (focus (first | rfl | (simp; done)))) | ((with_reducible refine kc_set0 ?_ ?_); (focus (first | rfl | (simp; done)))) | with_reducible refine ct_drew ?_ | with_reducible refine ct_drewN _ ?_ | ((with_reducible refine ct_new ?_ ?_); (focus (first | with_reducible rfl | (simp only [World.size_alloc, World.size_setCell, World.size_drew, size_drewN]; done))); (focus (first | rfl | (simp; done)))) | with_reducible refine ct_set _ _ ?_ | with_reducible refine ct_alloc _ ?_ | ((with_reducible refine kc_set ?_ ?_); (focus (first | (intro hx; injection hx; omega) | (simp; done)))) | with_reducible refine kc_alloc _ ?_ | ((with_reducible refine kf_new ?_ _); (focus (first | with_reducible rfl | (simp only [World.size_alloc, World.size_setCell, World.size_drew, size_drewN]; done)))) | with_reducible refine kf_set _ _ ?_ | ((with_reducible refine kf_alloc _ ?_ ?_); (focus (first | (simp only [World.size_alloc, World.size_setCell, World.size_drew, size_drewN]; omega) | (dsimp only; omega)))) | with_reducible refine bl_alloc ?_ _ | with_reducible refine bl_drew ?_ | with_reducible refine bl_drewN ?_ _ | ((with_reducible refine bl_set ?_ ?_ _); (focus (dsimp only; omega))) | with_reducible refine gro_alloc ?_ _ | with_reducible refine gro_drew ?_ | with_reducible refine gro_drewN ?_ _ | ((with_reducible refine gro_set ?_ ?_ _); (focus (first | omega | (dsimp only; omega))))))⟩
end Go.Proofs.Ytoenimkgagndnaa

/- Walks of package gear: given. -/
namespace Go.Proofs.Ytoenimkgagndnaa
set_option linter.unusedVariables false
set_option linter.unusedSimpArgs false
open Go.RowKit Go.Lib

theorem own_keeps {W W1 : World} {base size n : Nat} {e : TypeId} {v : Value} {xs : List Value} (h : W.ownsRow base e size v n xs) (hb : Below W.heap.size W W1) : W1.ownsRow base e size v n xs := by
  refine ⟨h.1, h.2.imp_right ?_⟩
  rintro ⟨g, cap, cur, hv, hl, hg, rest⟩
  have hlt : g < W.heap.size := by
    rcases Nat.lt_or_ge g W.heap.size with h | h
    · exact h
    · rw [Array.getElem?_eq_none h] at hg; cases hg
  exact ⟨g, cap, cur, hv, hl, (hb.block g hlt).trans hg, rest⟩

theorem clone_at (o g k : Nat) (a b c : Int) (W : World) (hk : k ≤ 3) (h0 : W.cell? ⟨g, o, none⟩ = some (.int .i64 a)) (h1 : W.cell? ⟨g, o + 1, none⟩ = some (.int .i64 b)) (h2 : W.cell? ⟨g, o + 2, none⟩ = some (.int .i64 c)) :
    Calls Try.prog 109 #[.slice (some ⟨g, o, none⟩) k 3] W fun e w' => ∃ (v' : Option Addr) (m : Nat), e = .returned (.slice v' k m) ∧ Hid (w'.ownsRow W.heap.size 3 1 (.slice v' k m) k (([a, b, c].take k).map (Value.int .i64))) ∧ Below W.heap.size W w' := by
  refine (Try.slices_Clone_int g o k 3 [a, b, c] W (by simpa using hk) (by omega) ?_).mono ?_
  · intro j hj
    simp at hj
    rcases (show j = 0 ∨ j = 1 ∨ j = 2 by omega) with rfl | rfl | rfl
    · exact h0
    · exact h1
    · exact h2
  · rintro e w' ⟨v, rfl, ho, _, hb⟩
    rcases Go.Joins.ownsRow_forms ho with ⟨rfl, rfl⟩ | ⟨g, m, rfl⟩
    · exact ⟨none, 0, rfl, ho, hb⟩
    · exact ⟨_, m, rfl, ho, hb⟩

/-- The first numbers of a side. -/
def Side.row (x : Side) (k : Nat) : List Value := ([x.a, x.b, x.c].take k).map (Value.int .i64)

set_option maxHeartbeats 800000 in
set_option maxRecDepth 100000 in
theorem given_any (t : Tr) (k : Nat) (w : World) (hk : k ≤ 3) (hn : t.n = k) :
    Calls Try.prog 85 #[t.val] w fun e w' => ∃ v1 v2, e = .returned (.agg #[v1, v2]) ∧ w'.ownsRow w.heap.size 3 1 v1 k (t.w.row k) ∧ w'.ownsRow w.heap.size 3 1 v2 k (t.p.row k) ∧ Below w.heap.size w w' := by
  obtain ⟨n, ⟨a, b, c, p, s⟩, ⟨a', b', c', p', s'⟩⟩ := t
  simp only at hn
  subst hn
  simp only [Tr.val, Tr.cells, Side.row] at *
  have hk0 : (0 : Int) ≤ (k : Int) := by omega
  have hk3 : (k : Int) ≤ 3 := by omega
  go_enter Try.func85, Try.ntmps85
  go_wp2_with fail
  go_region_held3 (fun w' => w'.cell? ⟨w.heap.size, 0, none⟩ = some (.int .i64 (k : Int)) ∧ w'.cell? ⟨w.heap.size, 1, none⟩ = some (.int .i64 a) ∧ w'.cell? ⟨w.heap.size, 2, none⟩ = some (.int .i64 b) ∧ w'.cell? ⟨w.heap.size, 3, none⟩ = some (.int .i64 c) ∧ w'.cell? ⟨w.heap.size, 6, none⟩ = some (.int .i64 a') ∧ w'.cell? ⟨w.heap.size, 7, none⟩ = some (.int .i64 b') ∧ w'.cell? ⟨w.heap.size, 8, none⟩ = some (.int .i64 c') ∧ there w' ⟨w.heap.size + 1, 0, none⟩ ∧ there w' ⟨w.heap.size + 1, 1, none⟩ ∧ w'.frozen? ⟨w.heap.size + 1, 0, none⟩ = false ∧ w'.frozen? ⟨w.heap.size + 1, 1, none⟩ = false ∧ w.heap.size + 2 ≤ w'.heap.size)
    (((try dsimp only); (repeat' apply And.intro)) <;> (first | ((with_reducible refine Nat.le_trans (Nat.le_refl _) ?_); (try simp only [World.size_alloc, World.size_setCell, World.size_drew, size_drewN]); omega) | (repeat (first | with_reducible rfl | with_reducible exact Below.refl _ _ | with_reducible exact gro_refl _ | with_reducible refine kc_drew ?_ | with_reducible refine kc_drewN _ ?_ | with_reducible refine kf_drew ?_ | with_reducible refine kf_drewN _ ?_ | with_reducible refine kc_below hb1 ?_ | with_reducible refine kc_below hb2 ?_ | ((with_reducible refine kc_new ?_ ?_); (focus (first | with_reducible rfl | (simp only [World.size_alloc, World.size_setCell, World.size_drew, size_drewN]; done))); (focus (first | rfl | (simp; done)))) | ((with_reducible refine kc_set0 ?_ ?_); (focus (first | rfl | (simp; done)))) | with_reducible refine ct_drew ?_ | with_reducible refine ct_drewN _ ?_ | with_reducible refine ct_below hb1 ?_ | with_reducible refine ct_below hb2 ?_ | ((with_reducible refine ct_new ?_ ?_); (focus (first | with_reducible rfl | (simp only [World.size_alloc, World.size_setCell, World.size_drew, size_drewN]; done))); (focus (first | rfl | (simp; done)))) | with_reducible refine ct_set _ _ ?_ | with_reducible refine ct_alloc _ ?_ | ((with_reducible refine kc_set ?_ ?_); (focus (first | (intro hx; injection hx; omega) | (simp; done)))) | with_reducible refine kc_alloc _ ?_ | ((with_reducible refine kf_new ?_ _); (focus (first | with_reducible rfl | (simp only [World.size_alloc, World.size_setCell, World.size_drew, size_drewN]; done)))) | with_reducible refine kf_set _ _ ?_ | ((with_reducible refine kf_below hb1 ?_ ?_); (focus (simp only [World.size_alloc, World.size_setCell, World.size_drew, size_drewN]; omega))) | ((with_reducible refine kf_below hb2 ?_ ?_); (focus (simp only [World.size_alloc, World.size_setCell, World.size_drew, size_drewN]; omega))) | ((with_reducible refine kf_alloc _ ?_ ?_); (focus (first | (simp only [World.size_alloc, World.size_setCell, World.size_drew, size_drewN]; omega) | (dsimp only; omega)))) | with_reducible refine bl_alloc ?_ _ | with_reducible refine bl_drew ?_ | with_reducible refine bl_drewN ?_ _ | ((with_reducible refine bl_set ?_ ?_ _); (focus (dsimp only; omega))) | with_reducible refine bl_call ?_ hb1 | with_reducible refine bl_call ?_ hb2 | with_reducible refine gro_alloc ?_ _ | with_reducible refine gro_drew ?_ | with_reducible refine gro_drewN ?_ _ | ((with_reducible refine gro_set ?_ ?_ _); (focus (first | omega | (dsimp only; omega)))) | with_reducible refine gro_call ?_ hk1 | with_reducible refine gro_call ?_ hk2))))
    ((first | ((have hbq := hb1; clear hbq); go_at_call 109; refine (clone_at _ _ _ _ _ _ _ (by omega) (by first | with_reducible assumption | (repeat (first | with_reducible rfl | with_reducible exact Below.refl _ _ | with_reducible exact gro_refl _ | with_reducible refine kc_drew ?_ | with_reducible refine kc_drewN _ ?_ | with_reducible refine kf_drew ?_ | with_reducible refine kf_drewN _ ?_ | with_reducible refine kc_below hb1 ?_ | with_reducible refine kc_below hb2 ?_ | ((with_reducible refine kc_new ?_ ?_); (focus (first | with_reducible rfl | (simp only [World.size_alloc, World.size_setCell, World.size_drew, size_drewN]; done))); (focus (first | rfl | (simp; done)))) | ((with_reducible refine kc_set0 ?_ ?_); (focus (first | rfl | (simp; done)))) | with_reducible refine ct_drew ?_ | with_reducible refine ct_drewN _ ?_ | with_reducible refine ct_below hb1 ?_ | with_reducible refine ct_below hb2 ?_ | ((with_reducible refine ct_new ?_ ?_); (focus (first | with_reducible rfl | (simp only [World.size_alloc, World.size_setCell, World.size_drew, size_drewN]; done))); (focus (first | rfl | (simp; done)))) | with_reducible refine ct_set _ _ ?_ | with_reducible refine ct_alloc _ ?_ | ((with_reducible refine kc_set ?_ ?_); (focus (first | (intro hx; injection hx; omega) | (simp; done)))) | with_reducible refine kc_alloc _ ?_ | ((with_reducible refine kf_new ?_ _); (focus (first | with_reducible rfl | (simp only [World.size_alloc, World.size_setCell, World.size_drew, size_drewN]; done)))) | with_reducible refine kf_set _ _ ?_ | ((with_reducible refine kf_below hb1 ?_ ?_); (focus (simp only [World.size_alloc, World.size_setCell, World.size_drew, size_drewN]; omega))) | ((with_reducible refine kf_below hb2 ?_ ?_); (focus (simp only [World.size_alloc, World.size_setCell, World.size_drew, size_drewN]; omega))) | ((with_reducible refine kf_alloc _ ?_ ?_); (focus (first | (simp only [World.size_alloc, World.size_setCell, World.size_drew, size_drewN]; omega) | (dsimp only; omega)))) | with_reducible refine bl_alloc ?_ _ | with_reducible refine bl_drew ?_ | with_reducible refine bl_drewN ?_ _ | ((with_reducible refine bl_set ?_ ?_ _); (focus (dsimp only; omega))) | with_reducible refine bl_call ?_ hb1 | with_reducible refine bl_call ?_ hb2 | with_reducible refine gro_alloc ?_ _ | with_reducible refine gro_drew ?_ | with_reducible refine gro_drewN ?_ _ | ((with_reducible refine gro_set ?_ ?_ _); (focus (first | omega | (dsimp only; omega)))) | with_reducible refine gro_call ?_ hk1 | with_reducible refine gro_call ?_ hk2))) (by first | with_reducible assumption | (repeat (first | with_reducible rfl | with_reducible exact Below.refl _ _ | with_reducible exact gro_refl _ | with_reducible refine kc_drew ?_ | with_reducible refine kc_drewN _ ?_ | with_reducible refine kf_drew ?_ | with_reducible refine kf_drewN _ ?_ | with_reducible refine kc_below hb1 ?_ | with_reducible refine kc_below hb2 ?_ | ((with_reducible refine kc_new ?_ ?_); (focus (first | with_reducible rfl | (simp only [World.size_alloc, World.size_setCell, World.size_drew, size_drewN]; done))); (focus (first | rfl | (simp; done)))) | ((with_reducible refine kc_set0 ?_ ?_); (focus (first | rfl | (simp; done)))) | with_reducible refine ct_drew ?_ | with_reducible refine ct_drewN _ ?_ | with_reducible refine ct_below hb1 ?_ | with_reducible refine ct_below hb2 ?_ | ((with_reducible refine ct_new ?_ ?_); (focus (first | with_reducible rfl | (simp only [World.size_alloc, World.size_setCell, World.size_drew, size_drewN]; done))); (focus (first | rfl | (simp; done)))) | with_reducible refine ct_set _ _ ?_ | with_reducible refine ct_alloc _ ?_ | ((with_reducible refine kc_set ?_ ?_); (focus (first | (intro hx; injection hx; omega) | (simp; done)))) | with_reducible refine kc_alloc _ ?_ | ((with_reducible refine kf_new ?_ _); (focus (first | with_reducible rfl | (simp only [World.size_alloc, World.size_setCell, World.size_drew, size_drewN]; done)))) | with_reducible refine kf_set _ _ ?_ | ((with_reducible refine kf_below hb1 ?_ ?_); (focus (simp only [World.size_alloc, World.size_setCell, World.size_drew, size_drewN]; omega))) | ((with_reducible refine kf_below hb2 ?_ ?_); (focus (simp only [World.size_alloc, World.size_setCell, World.size_drew, size_drewN]; omega))) | ((with_reducible refine kf_alloc _ ?_ ?_); (focus (first | (simp only [World.size_alloc, World.size_setCell, World.size_drew, size_drewN]; omega) | (dsimp only; omega)))) | with_reducible refine bl_alloc ?_ _ | with_reducible refine bl_drew ?_ | with_reducible refine bl_drewN ?_ _ | ((with_reducible refine bl_set ?_ ?_ _); (focus (dsimp only; omega))) | with_reducible refine bl_call ?_ hb1 | with_reducible refine bl_call ?_ hb2 | with_reducible refine gro_alloc ?_ _ | with_reducible refine gro_drew ?_ | with_reducible refine gro_drewN ?_ _ | ((with_reducible refine gro_set ?_ ?_ _); (focus (first | omega | (dsimp only; omega)))) | with_reducible refine gro_call ?_ hk1 | with_reducible refine gro_call ?_ hk2))) (by first | with_reducible assumption | (repeat (first | with_reducible rfl | with_reducible exact Below.refl _ _ | with_reducible exact gro_refl _ | with_reducible refine kc_drew ?_ | with_reducible refine kc_drewN _ ?_ | with_reducible refine kf_drew ?_ | with_reducible refine kf_drewN _ ?_ | with_reducible refine kc_below hb1 ?_ | with_reducible refine kc_below hb2 ?_ | ((with_reducible refine kc_new ?_ ?_); (focus (first | with_reducible rfl | (simp only [World.size_alloc, World.size_setCell, World.size_drew, size_drewN]; done))); (focus (first | rfl | (simp; done)))) | ((with_reducible refine kc_set0 ?_ ?_); (focus (first | rfl | (simp; done)))) | with_reducible refine ct_drew ?_ | with_reducible refine ct_drewN _ ?_ | with_reducible refine ct_below hb1 ?_ | with_reducible refine ct_below hb2 ?_ | ((with_reducible refine ct_new ?_ ?_); (focus (first | with_reducible rfl | (simp only [World.size_alloc, World.size_setCell, World.size_drew, size_drewN]; done))); (focus (first | rfl | (simp; done)))) | with_reducible refine ct_set _ _ ?_ | with_reducible refine ct_alloc _ ?_ | ((with_reducible refine kc_set ?_ ?_); (focus (first | (intro hx; injection hx; omega) | (simp; done)))) | with_reducible refine kc_alloc _ ?_ | ((with_reducible refine kf_new ?_ _); (focus (first | with_reducible rfl | (simp only [World.size_alloc, World.size_setCell, World.size_drew, size_drewN]; done)))) | with_reducible refine kf_set _ _ ?_ | ((with_reducible refine kf_below hb1 ?_ ?_); (focus (simp only [World.size_alloc, World.size_setCell, World.size_drew, size_drewN]; omega))) | ((with_reducible refine kf_below hb2 ?_ ?_); (focus (simp only [World.size_alloc, World.size_setCell, World.size_drew, size_drewN]; omega))) | ((with_reducible refine kf_alloc _ ?_ ?_); (focus (first | (simp only [World.size_alloc, World.size_setCell, World.size_drew, size_drewN]; omega) | (dsimp only; omega)))) | with_reducible refine bl_alloc ?_ _ | with_reducible refine bl_drew ?_ | with_reducible refine bl_drewN ?_ _ | ((with_reducible refine bl_set ?_ ?_ _); (focus (dsimp only; omega))) | with_reducible refine bl_call ?_ hb1 | with_reducible refine bl_call ?_ hb2 | with_reducible refine gro_alloc ?_ _ | with_reducible refine gro_drew ?_ | with_reducible refine gro_drewN ?_ _ | ((with_reducible refine gro_set ?_ ?_ _); (focus (first | omega | (dsimp only; omega)))) | with_reducible refine gro_call ?_ hk1 | with_reducible refine gro_call ?_ hk2)))).mono ?_; (rintro e w2 ⟨v2, m2, rfl, ho2, hb2⟩; obtain ⟨hc2, hf2⟩ := bcell hb2; (try simp only [World.size_alloc, World.size_drew, size_drewN] at hc2 hf2); have hz2 := hb2.size; (try simp only [World.size_alloc, World.size_drew, size_drewN] at hz2); have hg2 : w.heap.size + 1 < w2.heap.size := (by omega); have r20 : w2.cell? ⟨w.heap.size + 1, 0, none⟩ = some (.slice none 0 0) := (by (repeat (first | with_reducible exact r10 | with_reducible exact r11 | with_reducible exact x10 | with_reducible exact x11 | with_reducible rfl | with_reducible exact Below.refl _ _ | with_reducible exact gro_refl _ | with_reducible refine kc_drew ?_ | with_reducible refine kc_drewN _ ?_ | with_reducible refine kf_drew ?_ | with_reducible refine kf_drewN _ ?_ | with_reducible refine kc_below hb2 ?_ | ((with_reducible refine kc_new ?_ ?_); (focus (first | with_reducible rfl | (simp only [World.size_alloc, World.size_setCell, World.size_drew, size_drewN]; done))); (focus (first | rfl | (simp; done)))) | ((with_reducible refine kc_set0 ?_ ?_); (focus (first | rfl | (simp; done)))) | with_reducible exact ct_of (r10) | with_reducible exact ct_of (r11) | with_reducible exact ct_of (x10) | with_reducible exact ct_of (x11) | with_reducible refine ct_drew ?_ | with_reducible refine ct_drewN _ ?_ | with_reducible refine ct_below hb2 ?_ | ((with_reducible refine ct_new ?_ ?_); (focus (first | with_reducible rfl | (simp only [World.size_alloc, World.size_setCell, World.size_drew, size_drewN]; done))); (focus (first | rfl | (simp; done)))) | with_reducible refine ct_set _ _ ?_ | with_reducible refine ct_alloc _ ?_ | ((with_reducible refine kc_set ?_ ?_); (focus (first | (intro hx; injection hx; omega) | (simp; done)))) | with_reducible refine kc_alloc _ ?_ | ((with_reducible refine kf_new ?_ _); (focus (first | with_reducible rfl | (simp only [World.size_alloc, World.size_setCell, World.size_drew, size_drewN]; done)))) | with_reducible refine kf_set _ _ ?_ | ((with_reducible refine kf_below hb2 ?_ ?_); (focus (simp only [World.size_alloc, World.size_setCell, World.size_drew, size_drewN]; omega))) | ((with_reducible refine kf_alloc _ ?_ ?_); (focus (first | (simp only [World.size_alloc, World.size_setCell, World.size_drew, size_drewN]; omega) | (dsimp only; omega)))) | with_reducible refine bl_alloc ?_ _ | with_reducible refine bl_drew ?_ | with_reducible refine bl_drewN ?_ _ | ((with_reducible refine bl_set ?_ ?_ _); (focus (dsimp only; omega))) | with_reducible refine bl_call ?_ hb2 | with_reducible refine gro_alloc ?_ _ | with_reducible refine gro_drew ?_ | with_reducible refine gro_drewN ?_ _ | ((with_reducible refine gro_set ?_ ?_ _); (focus (first | omega | (dsimp only; omega)))) | with_reducible refine gro_call ?_ hk2))); have x20 : w2.frozen? ⟨w.heap.size + 1, 0, none⟩ = false := (by (repeat (first | with_reducible exact r10 | with_reducible exact r11 | with_reducible exact x10 | with_reducible exact x11 | with_reducible rfl | with_reducible exact Below.refl _ _ | with_reducible exact gro_refl _ | with_reducible refine kc_drew ?_ | with_reducible refine kc_drewN _ ?_ | with_reducible refine kf_drew ?_ | with_reducible refine kf_drewN _ ?_ | with_reducible refine kc_below hb2 ?_ | ((with_reducible refine kc_new ?_ ?_); (focus (first | with_reducible rfl | (simp only [World.size_alloc, World.size_setCell, World.size_drew, size_drewN]; done))); (focus (first | rfl | (simp; done)))) | ((with_reducible refine kc_set0 ?_ ?_); (focus (first | rfl | (simp; done)))) | with_reducible exact ct_of (r10) | with_reducible exact ct_of (r11) | with_reducible exact ct_of (x10) | with_reducible exact ct_of (x11) | with_reducible refine ct_drew ?_ | with_reducible refine ct_drewN _ ?_ | with_reducible refine ct_below hb2 ?_ | ((with_reducible refine ct_new ?_ ?_); (focus (first | with_reducible rfl | (simp only [World.size_alloc, World.size_setCell, World.size_drew, size_drewN]; done))); (focus (first | rfl | (simp; done)))) | with_reducible refine ct_set _ _ ?_ | with_reducible refine ct_alloc _ ?_ | ((with_reducible refine kc_set ?_ ?_); (focus (first | (intro hx; injection hx; omega) | (simp; done)))) | with_reducible refine kc_alloc _ ?_ | ((with_reducible refine kf_new ?_ _); (focus (first | with_reducible rfl | (simp only [World.size_alloc, World.size_setCell, World.size_drew, size_drewN]; done)))) | with_reducible refine kf_set _ _ ?_ | ((with_reducible refine kf_below hb2 ?_ ?_); (focus (simp only [World.size_alloc, World.size_setCell, World.size_drew, size_drewN]; omega))) | ((with_reducible refine kf_alloc _ ?_ ?_); (focus (first | (simp only [World.size_alloc, World.size_setCell, World.size_drew, size_drewN]; omega) | (dsimp only; omega)))) | with_reducible refine bl_alloc ?_ _ | with_reducible refine bl_drew ?_ | with_reducible refine bl_drewN ?_ _ | ((with_reducible refine bl_set ?_ ?_ _); (focus (dsimp only; omega))) | with_reducible refine bl_call ?_ hb2 | with_reducible refine gro_alloc ?_ _ | with_reducible refine gro_drew ?_ | with_reducible refine gro_drewN ?_ _ | ((with_reducible refine gro_set ?_ ?_ _); (focus (first | omega | (dsimp only; omega)))) | with_reducible refine gro_call ?_ hk2))); have r21 : w2.cell? ⟨w.heap.size + 1, 1, none⟩ = some (.slice none 0 0) := (by (repeat (first | with_reducible exact r10 | with_reducible exact r11 | with_reducible exact x10 | with_reducible exact x11 | with_reducible rfl | with_reducible exact Below.refl _ _ | with_reducible exact gro_refl _ | with_reducible refine kc_drew ?_ | with_reducible refine kc_drewN _ ?_ | with_reducible refine kf_drew ?_ | with_reducible refine kf_drewN _ ?_ | with_reducible refine kc_below hb2 ?_ | ((with_reducible refine kc_new ?_ ?_); (focus (first | with_reducible rfl | (simp only [World.size_alloc, World.size_setCell, World.size_drew, size_drewN]; done))); (focus (first | rfl | (simp; done)))) | ((with_reducible refine kc_set0 ?_ ?_); (focus (first | rfl | (simp; done)))) | with_reducible exact ct_of (r10) | with_reducible exact ct_of (r11) | with_reducible exact ct_of (x10) | with_reducible exact ct_of (x11) | with_reducible refine ct_drew ?_ | with_reducible refine ct_drewN _ ?_ | with_reducible refine ct_below hb2 ?_ | ((with_reducible refine ct_new ?_ ?_); (focus (first | with_reducible rfl | (simp only [World.size_alloc, World.size_setCell, World.size_drew, size_drewN]; done))); (focus (first | rfl | (simp; done)))) | with_reducible refine ct_set _ _ ?_ | with_reducible refine ct_alloc _ ?_ | ((with_reducible refine kc_set ?_ ?_); (focus (first | (intro hx; injection hx; omega) | (simp; done)))) | with_reducible refine kc_alloc _ ?_ | ((with_reducible refine kf_new ?_ _); (focus (first | with_reducible rfl | (simp only [World.size_alloc, World.size_setCell, World.size_drew, size_drewN]; done)))) | with_reducible refine kf_set _ _ ?_ | ((with_reducible refine kf_below hb2 ?_ ?_); (focus (simp only [World.size_alloc, World.size_setCell, World.size_drew, size_drewN]; omega))) | ((with_reducible refine kf_alloc _ ?_ ?_); (focus (first | (simp only [World.size_alloc, World.size_setCell, World.size_drew, size_drewN]; omega) | (dsimp only; omega)))) | with_reducible refine bl_alloc ?_ _ | with_reducible refine bl_drew ?_ | with_reducible refine bl_drewN ?_ _ | ((with_reducible refine bl_set ?_ ?_ _); (focus (dsimp only; omega))) | with_reducible refine bl_call ?_ hb2 | with_reducible refine gro_alloc ?_ _ | with_reducible refine gro_drew ?_ | with_reducible refine gro_drewN ?_ _ | ((with_reducible refine gro_set ?_ ?_ _); (focus (first | omega | (dsimp only; omega)))) | with_reducible refine gro_call ?_ hk2))); have x21 : w2.frozen? ⟨w.heap.size + 1, 1, none⟩ = false := (by (repeat (first | with_reducible exact r10 | with_reducible exact r11 | with_reducible exact x10 | with_reducible exact x11 | with_reducible rfl | with_reducible exact Below.refl _ _ | with_reducible exact gro_refl _ | with_reducible refine kc_drew ?_ | with_reducible refine kc_drewN _ ?_ | with_reducible refine kf_drew ?_ | with_reducible refine kf_drewN _ ?_ | with_reducible refine kc_below hb2 ?_ | ((with_reducible refine kc_new ?_ ?_); (focus (first | with_reducible rfl | (simp only [World.size_alloc, World.size_setCell, World.size_drew, size_drewN]; done))); (focus (first | rfl | (simp; done)))) | ((with_reducible refine kc_set0 ?_ ?_); (focus (first | rfl | (simp; done)))) | with_reducible exact ct_of (r10) | with_reducible exact ct_of (r11) | with_reducible exact ct_of (x10) | with_reducible exact ct_of (x11) | with_reducible refine ct_drew ?_ | with_reducible refine ct_drewN _ ?_ | with_reducible refine ct_below hb2 ?_ | ((with_reducible refine ct_new ?_ ?_); (focus (first | with_reducible rfl | (simp only [World.size_alloc, World.size_setCell, World.size_drew, size_drewN]; done))); (focus (first | rfl | (simp; done)))) | with_reducible refine ct_set _ _ ?_ | with_reducible refine ct_alloc _ ?_ | ((with_reducible refine kc_set ?_ ?_); (focus (first | (intro hx; injection hx; omega) | (simp; done)))) | with_reducible refine kc_alloc _ ?_ | ((with_reducible refine kf_new ?_ _); (focus (first | with_reducible rfl | (simp only [World.size_alloc, World.size_setCell, World.size_drew, size_drewN]; done)))) | with_reducible refine kf_set _ _ ?_ | ((with_reducible refine kf_below hb2 ?_ ?_); (focus (simp only [World.size_alloc, World.size_setCell, World.size_drew, size_drewN]; omega))) | ((with_reducible refine kf_alloc _ ?_ ?_); (focus (first | (simp only [World.size_alloc, World.size_setCell, World.size_drew, size_drewN]; omega) | (dsimp only; omega)))) | with_reducible refine bl_alloc ?_ _ | with_reducible refine bl_drew ?_ | with_reducible refine bl_drewN ?_ _ | ((with_reducible refine bl_set ?_ ?_ _); (focus (dsimp only; omega))) | with_reducible refine bl_call ?_ hb2 | with_reducible refine gro_alloc ?_ _ | with_reducible refine gro_drew ?_ | with_reducible refine gro_drewN ?_ _ | ((with_reducible refine gro_set ?_ ?_ _); (focus (first | omega | (dsimp only; omega)))) | with_reducible refine gro_call ?_ hk2))))) | (go_at_call 109; refine (clone_at _ _ _ _ _ _ _ (by omega) (by first | with_reducible assumption | (repeat (first | with_reducible rfl | with_reducible exact Below.refl _ _ | with_reducible exact gro_refl _ | with_reducible refine kc_drew ?_ | with_reducible refine kc_drewN _ ?_ | with_reducible refine kf_drew ?_ | with_reducible refine kf_drewN _ ?_ | with_reducible refine kc_below hb1 ?_ | with_reducible refine kc_below hb2 ?_ | ((with_reducible refine kc_new ?_ ?_); (focus (first | with_reducible rfl | (simp only [World.size_alloc, World.size_setCell, World.size_drew, size_drewN]; done))); (focus (first | rfl | (simp; done)))) | ((with_reducible refine kc_set0 ?_ ?_); (focus (first | rfl | (simp; done)))) | with_reducible refine ct_drew ?_ | with_reducible refine ct_drewN _ ?_ | with_reducible refine ct_below hb1 ?_ | with_reducible refine ct_below hb2 ?_ | ((with_reducible refine ct_new ?_ ?_); (focus (first | with_reducible rfl | (simp only [World.size_alloc, World.size_setCell, World.size_drew, size_drewN]; done))); (focus (first | rfl | (simp; done)))) | with_reducible refine ct_set _ _ ?_ | with_reducible refine ct_alloc _ ?_ | ((with_reducible refine kc_set ?_ ?_); (focus (first | (intro hx; injection hx; omega) | (simp; done)))) | with_reducible refine kc_alloc _ ?_ | ((with_reducible refine kf_new ?_ _); (focus (first | with_reducible rfl | (simp only [World.size_alloc, World.size_setCell, World.size_drew, size_drewN]; done)))) | with_reducible refine kf_set _ _ ?_ | ((with_reducible refine kf_below hb1 ?_ ?_); (focus (simp only [World.size_alloc, World.size_setCell, World.size_drew, size_drewN]; omega))) | ((with_reducible refine kf_below hb2 ?_ ?_); (focus (simp only [World.size_alloc, World.size_setCell, World.size_drew, size_drewN]; omega))) | ((with_reducible refine kf_alloc _ ?_ ?_); (focus (first | (simp only [World.size_alloc, World.size_setCell, World.size_drew, size_drewN]; omega) | (dsimp only; omega)))) | with_reducible refine bl_alloc ?_ _ | with_reducible refine bl_drew ?_ | with_reducible refine bl_drewN ?_ _ | ((with_reducible refine bl_set ?_ ?_ _); (focus (dsimp only; omega))) | with_reducible refine bl_call ?_ hb1 | with_reducible refine bl_call ?_ hb2 | with_reducible refine gro_alloc ?_ _ | with_reducible refine gro_drew ?_ | with_reducible refine gro_drewN ?_ _ | ((with_reducible refine gro_set ?_ ?_ _); (focus (first | omega | (dsimp only; omega)))) | with_reducible refine gro_call ?_ hk1 | with_reducible refine gro_call ?_ hk2))) (by first | with_reducible assumption | (repeat (first | with_reducible rfl | with_reducible exact Below.refl _ _ | with_reducible exact gro_refl _ | with_reducible refine kc_drew ?_ | with_reducible refine kc_drewN _ ?_ | with_reducible refine kf_drew ?_ | with_reducible refine kf_drewN _ ?_ | with_reducible refine kc_below hb1 ?_ | with_reducible refine kc_below hb2 ?_ | ((with_reducible refine kc_new ?_ ?_); (focus (first | with_reducible rfl | (simp only [World.size_alloc, World.size_setCell, World.size_drew, size_drewN]; done))); (focus (first | rfl | (simp; done)))) | ((with_reducible refine kc_set0 ?_ ?_); (focus (first | rfl | (simp; done)))) | with_reducible refine ct_drew ?_ | with_reducible refine ct_drewN _ ?_ | with_reducible refine ct_below hb1 ?_ | with_reducible refine ct_below hb2 ?_ | ((with_reducible refine ct_new ?_ ?_); (focus (first | with_reducible rfl | (simp only [World.size_alloc, World.size_setCell, World.size_drew, size_drewN]; done))); (focus (first | rfl | (simp; done)))) | with_reducible refine ct_set _ _ ?_ | with_reducible refine ct_alloc _ ?_ | ((with_reducible refine kc_set ?_ ?_); (focus (first | (intro hx; injection hx; omega) | (simp; done)))) | with_reducible refine kc_alloc _ ?_ | ((with_reducible refine kf_new ?_ _); (focus (first | with_reducible rfl | (simp only [World.size_alloc, World.size_setCell, World.size_drew, size_drewN]; done)))) | with_reducible refine kf_set _ _ ?_ | ((with_reducible refine kf_below hb1 ?_ ?_); (focus (simp only [World.size_alloc, World.size_setCell, World.size_drew, size_drewN]; omega))) | ((with_reducible refine kf_below hb2 ?_ ?_); (focus (simp only [World.size_alloc, World.size_setCell, World.size_drew, size_drewN]; omega))) | ((with_reducible refine kf_alloc _ ?_ ?_); (focus (first | (simp only [World.size_alloc, World.size_setCell, World.size_drew, size_drewN]; omega) | (dsimp only; omega)))) | with_reducible refine bl_alloc ?_ _ | with_reducible refine bl_drew ?_ | with_reducible refine bl_drewN ?_ _ | ((with_reducible refine bl_set ?_ ?_ _); (focus (dsimp only; omega))) | with_reducible refine bl_call ?_ hb1 | with_reducible refine bl_call ?_ hb2 | with_reducible refine gro_alloc ?_ _ | with_reducible refine gro_drew ?_ | with_reducible refine gro_drewN ?_ _ | ((with_reducible refine gro_set ?_ ?_ _); (focus (first | omega | (dsimp only; omega)))) | with_reducible refine gro_call ?_ hk1 | with_reducible refine gro_call ?_ hk2))) (by first | with_reducible assumption | (repeat (first | with_reducible rfl | with_reducible exact Below.refl _ _ | with_reducible exact gro_refl _ | with_reducible refine kc_drew ?_ | with_reducible refine kc_drewN _ ?_ | with_reducible refine kf_drew ?_ | with_reducible refine kf_drewN _ ?_ | with_reducible refine kc_below hb1 ?_ | with_reducible refine kc_below hb2 ?_ | ((with_reducible refine kc_new ?_ ?_); (focus (first | with_reducible rfl | (simp only [World.size_alloc, World.size_setCell, World.size_drew, size_drewN]; done))); (focus (first | rfl | (simp; done)))) | ((with_reducible refine kc_set0 ?_ ?_); (focus (first | rfl | (simp; done)))) | with_reducible refine ct_drew ?_ | with_reducible refine ct_drewN _ ?_ | with_reducible refine ct_below hb1 ?_ | with_reducible refine ct_below hb2 ?_ | ((with_reducible refine ct_new ?_ ?_); (focus (first | with_reducible rfl | (simp only [World.size_alloc, World.size_setCell, World.size_drew, size_drewN]; done))); (focus (first | rfl | (simp; done)))) | with_reducible refine ct_set _ _ ?_ | with_reducible refine ct_alloc _ ?_ | ((with_reducible refine kc_set ?_ ?_); (focus (first | (intro hx; injection hx; omega) | (simp; done)))) | with_reducible refine kc_alloc _ ?_ | ((with_reducible refine kf_new ?_ _); (focus (first | with_reducible rfl | (simp only [World.size_alloc, World.size_setCell, World.size_drew, size_drewN]; done)))) | with_reducible refine kf_set _ _ ?_ | ((with_reducible refine kf_below hb1 ?_ ?_); (focus (simp only [World.size_alloc, World.size_setCell, World.size_drew, size_drewN]; omega))) | ((with_reducible refine kf_below hb2 ?_ ?_); (focus (simp only [World.size_alloc, World.size_setCell, World.size_drew, size_drewN]; omega))) | ((with_reducible refine kf_alloc _ ?_ ?_); (focus (first | (simp only [World.size_alloc, World.size_setCell, World.size_drew, size_drewN]; omega) | (dsimp only; omega)))) | with_reducible refine bl_alloc ?_ _ | with_reducible refine bl_drew ?_ | with_reducible refine bl_drewN ?_ _ | ((with_reducible refine bl_set ?_ ?_ _); (focus (dsimp only; omega))) | with_reducible refine bl_call ?_ hb1 | with_reducible refine bl_call ?_ hb2 | with_reducible refine gro_alloc ?_ _ | with_reducible refine gro_drew ?_ | with_reducible refine gro_drewN ?_ _ | ((with_reducible refine gro_set ?_ ?_ _); (focus (first | omega | (dsimp only; omega)))) | with_reducible refine gro_call ?_ hk1 | with_reducible refine gro_call ?_ hk2)))).mono ?_; (rintro e w1 ⟨v1, m1, rfl, ho1, hb1⟩; obtain ⟨hc1, hf1⟩ := bcell hb1; (try simp only [World.size_alloc, World.size_drew, size_drewN] at hc1 hf1); have hz1 := hb1.size; (try simp only [World.size_alloc, World.size_drew, size_drewN] at hz1); have hg1 : w.heap.size + 1 < w1.heap.size := (by omega); have r10 : w1.cell? ⟨w.heap.size + 1, 0, none⟩ = some (.slice none 0 0) := (by (repeat (first | with_reducible rfl | with_reducible exact Below.refl _ _ | with_reducible exact gro_refl _ | with_reducible refine kc_drew ?_ | with_reducible refine kc_drewN _ ?_ | with_reducible refine kf_drew ?_ | with_reducible refine kf_drewN _ ?_ | with_reducible refine kc_below hb1 ?_ | ((with_reducible refine kc_new ?_ ?_); (focus (first | with_reducible rfl | (simp only [World.size_alloc, World.size_setCell, World.size_drew, size_drewN]; done))); (focus (first | rfl | (simp; done)))) | ((with_reducible refine kc_set0 ?_ ?_); (focus (first | rfl | (simp; done)))) | with_reducible refine ct_drew ?_ | with_reducible refine ct_drewN _ ?_ | with_reducible refine ct_below hb1 ?_ | ((with_reducible refine ct_new ?_ ?_); (focus (first | with_reducible rfl | (simp only [World.size_alloc, World.size_setCell, World.size_drew, size_drewN]; done))); (focus (first | rfl | (simp; done)))) | with_reducible refine ct_set _ _ ?_ | with_reducible refine ct_alloc _ ?_ | ((with_reducible refine kc_set ?_ ?_); (focus (first | (intro hx; injection hx; omega) | (simp; done)))) | with_reducible refine kc_alloc _ ?_ | ((with_reducible refine kf_new ?_ _); (focus (first | with_reducible rfl | (simp only [World.size_alloc, World.size_setCell, World.size_drew, size_drewN]; done)))) | with_reducible refine kf_set _ _ ?_ | ((with_reducible refine kf_below hb1 ?_ ?_); (focus (simp only [World.size_alloc, World.size_setCell, World.size_drew, size_drewN]; omega))) | ((with_reducible refine kf_alloc _ ?_ ?_); (focus (first | (simp only [World.size_alloc, World.size_setCell, World.size_drew, size_drewN]; omega) | (dsimp only; omega)))) | with_reducible refine bl_alloc ?_ _ | with_reducible refine bl_drew ?_ | with_reducible refine bl_drewN ?_ _ | ((with_reducible refine bl_set ?_ ?_ _); (focus (dsimp only; omega))) | with_reducible refine bl_call ?_ hb1 | with_reducible refine gro_alloc ?_ _ | with_reducible refine gro_drew ?_ | with_reducible refine gro_drewN ?_ _ | ((with_reducible refine gro_set ?_ ?_ _); (focus (first | omega | (dsimp only; omega)))) | with_reducible refine gro_call ?_ hk1))); have x10 : w1.frozen? ⟨w.heap.size + 1, 0, none⟩ = false := (by (repeat (first | with_reducible rfl | with_reducible exact Below.refl _ _ | with_reducible exact gro_refl _ | with_reducible refine kc_drew ?_ | with_reducible refine kc_drewN _ ?_ | with_reducible refine kf_drew ?_ | with_reducible refine kf_drewN _ ?_ | with_reducible refine kc_below hb1 ?_ | ((with_reducible refine kc_new ?_ ?_); (focus (first | with_reducible rfl | (simp only [World.size_alloc, World.size_setCell, World.size_drew, size_drewN]; done))); (focus (first | rfl | (simp; done)))) | ((with_reducible refine kc_set0 ?_ ?_); (focus (first | rfl | (simp; done)))) | with_reducible refine ct_drew ?_ | with_reducible refine ct_drewN _ ?_ | with_reducible refine ct_below hb1 ?_ | ((with_reducible refine ct_new ?_ ?_); (focus (first | with_reducible rfl | (simp only [World.size_alloc, World.size_setCell, World.size_drew, size_drewN]; done))); (focus (first | rfl | (simp; done)))) | with_reducible refine ct_set _ _ ?_ | with_reducible refine ct_alloc _ ?_ | ((with_reducible refine kc_set ?_ ?_); (focus (first | (intro hx; injection hx; omega) | (simp; done)))) | with_reducible refine kc_alloc _ ?_ | ((with_reducible refine kf_new ?_ _); (focus (first | with_reducible rfl | (simp only [World.size_alloc, World.size_setCell, World.size_drew, size_drewN]; done)))) | with_reducible refine kf_set _ _ ?_ | ((with_reducible refine kf_below hb1 ?_ ?_); (focus (simp only [World.size_alloc, World.size_setCell, World.size_drew, size_drewN]; omega))) | ((with_reducible refine kf_alloc _ ?_ ?_); (focus (first | (simp only [World.size_alloc, World.size_setCell, World.size_drew, size_drewN]; omega) | (dsimp only; omega)))) | with_reducible refine bl_alloc ?_ _ | with_reducible refine bl_drew ?_ | with_reducible refine bl_drewN ?_ _ | ((with_reducible refine bl_set ?_ ?_ _); (focus (dsimp only; omega))) | with_reducible refine bl_call ?_ hb1 | with_reducible refine gro_alloc ?_ _ | with_reducible refine gro_drew ?_ | with_reducible refine gro_drewN ?_ _ | ((with_reducible refine gro_set ?_ ?_ _); (focus (first | omega | (dsimp only; omega)))) | with_reducible refine gro_call ?_ hk1))); have r11 : w1.cell? ⟨w.heap.size + 1, 1, none⟩ = some (.slice none 0 0) := (by (repeat (first | with_reducible rfl | with_reducible exact Below.refl _ _ | with_reducible exact gro_refl _ | with_reducible refine kc_drew ?_ | with_reducible refine kc_drewN _ ?_ | with_reducible refine kf_drew ?_ | with_reducible refine kf_drewN _ ?_ | with_reducible refine kc_below hb1 ?_ | ((with_reducible refine kc_new ?_ ?_); (focus (first | with_reducible rfl | (simp only [World.size_alloc, World.size_setCell, World.size_drew, size_drewN]; done))); (focus (first | rfl | (simp; done)))) | ((with_reducible refine kc_set0 ?_ ?_); (focus (first | rfl | (simp; done)))) | with_reducible refine ct_drew ?_ | with_reducible refine ct_drewN _ ?_ | with_reducible refine ct_below hb1 ?_ | ((with_reducible refine ct_new ?_ ?_); (focus (first | with_reducible rfl | (simp only [World.size_alloc, World.size_setCell, World.size_drew, size_drewN]; done))); (focus (first | rfl | (simp; done)))) | with_reducible refine ct_set _ _ ?_ | with_reducible refine ct_alloc _ ?_ | ((with_reducible refine kc_set ?_ ?_); (focus (first | (intro hx; injection hx; omega) | (simp; done)))) | with_reducible refine kc_alloc _ ?_ | ((with_reducible refine kf_new ?_ _); (focus (first | with_reducible rfl | (simp only [World.size_alloc, World.size_setCell, World.size_drew, size_drewN]; done)))) | with_reducible refine kf_set _ _ ?_ | ((with_reducible refine kf_below hb1 ?_ ?_); (focus (simp only [World.size_alloc, World.size_setCell, World.size_drew, size_drewN]; omega))) | ((with_reducible refine kf_alloc _ ?_ ?_); (focus (first | (simp only [World.size_alloc, World.size_setCell, World.size_drew, size_drewN]; omega) | (dsimp only; omega)))) | with_reducible refine bl_alloc ?_ _ | with_reducible refine bl_drew ?_ | with_reducible refine bl_drewN ?_ _ | ((with_reducible refine bl_set ?_ ?_ _); (focus (dsimp only; omega))) | with_reducible refine bl_call ?_ hb1 | with_reducible refine gro_alloc ?_ _ | with_reducible refine gro_drew ?_ | with_reducible refine gro_drewN ?_ _ | ((with_reducible refine gro_set ?_ ?_ _); (focus (first | omega | (dsimp only; omega)))) | with_reducible refine gro_call ?_ hk1))); have x11 : w1.frozen? ⟨w.heap.size + 1, 1, none⟩ = false := (by (repeat (first | with_reducible rfl | with_reducible exact Below.refl _ _ | with_reducible exact gro_refl _ | with_reducible refine kc_drew ?_ | with_reducible refine kc_drewN _ ?_ | with_reducible refine kf_drew ?_ | with_reducible refine kf_drewN _ ?_ | with_reducible refine kc_below hb1 ?_ | ((with_reducible refine kc_new ?_ ?_); (focus (first | with_reducible rfl | (simp only [World.size_alloc, World.size_setCell, World.size_drew, size_drewN]; done))); (focus (first | rfl | (simp; done)))) | ((with_reducible refine kc_set0 ?_ ?_); (focus (first | rfl | (simp; done)))) | with_reducible refine ct_drew ?_ | with_reducible refine ct_drewN _ ?_ | with_reducible refine ct_below hb1 ?_ | ((with_reducible refine ct_new ?_ ?_); (focus (first | with_reducible rfl | (simp only [World.size_alloc, World.size_setCell, World.size_drew, size_drewN]; done))); (focus (first | rfl | (simp; done)))) | with_reducible refine ct_set _ _ ?_ | with_reducible refine ct_alloc _ ?_ | ((with_reducible refine kc_set ?_ ?_); (focus (first | (intro hx; injection hx; omega) | (simp; done)))) | with_reducible refine kc_alloc _ ?_ | ((with_reducible refine kf_new ?_ _); (focus (first | with_reducible rfl | (simp only [World.size_alloc, World.size_setCell, World.size_drew, size_drewN]; done)))) | with_reducible refine kf_set _ _ ?_ | ((with_reducible refine kf_below hb1 ?_ ?_); (focus (simp only [World.size_alloc, World.size_setCell, World.size_drew, size_drewN]; omega))) | ((with_reducible refine kf_alloc _ ?_ ?_); (focus (first | (simp only [World.size_alloc, World.size_setCell, World.size_drew, size_drewN]; omega) | (dsimp only; omega)))) | with_reducible refine bl_alloc ?_ _ | with_reducible refine bl_drew ?_ | with_reducible refine bl_drewN ?_ _ | ((with_reducible refine bl_set ?_ ?_ _); (focus (dsimp only; omega))) | with_reducible refine bl_call ?_ hb1 | with_reducible refine gro_alloc ?_ _ | with_reducible refine gro_drew ?_ | with_reducible refine gro_drewN ?_ _ | ((with_reducible refine gro_set ?_ ?_ _); (focus (first | omega | (dsimp only; omega)))) | with_reducible refine gro_call ?_ hk1)))))))
  go_wp2_with fail
  have hB1 : Below w.heap.size w w1 := by (repeat (first | with_reducible rfl | with_reducible exact Below.refl _ _ | with_reducible exact gro_refl _ | with_reducible refine kc_drew ?_ | with_reducible refine kc_drewN _ ?_ | with_reducible refine kf_drew ?_ | with_reducible refine kf_drewN _ ?_ | with_reducible refine kc_below hb1 ?_ | ((with_reducible refine kc_new ?_ ?_); (focus (first | with_reducible rfl | (simp only [World.size_alloc, World.size_setCell, World.size_drew, size_drewN]; done))); (focus (first | rfl | (simp; done)))) | ((with_reducible refine kc_set0 ?_ ?_); (focus (first | rfl | (simp; done)))) | with_reducible refine ct_drew ?_ | with_reducible refine ct_drewN _ ?_ | with_reducible refine ct_below hb1 ?_ | ((with_reducible refine ct_new ?_ ?_); (focus (first | with_reducible rfl | (simp only [World.size_alloc, World.size_setCell, World.size_drew, size_drewN]; done))); (focus (first | rfl | (simp; done)))) | with_reducible refine ct_set _ _ ?_ | with_reducible refine ct_alloc _ ?_ | ((with_reducible refine kc_set ?_ ?_); (focus (first | (intro hx; injection hx; omega) | (simp; done)))) | with_reducible refine kc_alloc _ ?_ | ((with_reducible refine kf_new ?_ _); (focus (first | with_reducible rfl | (simp only [World.size_alloc, World.size_setCell, World.size_drew, size_drewN]; done)))) | with_reducible refine kf_set _ _ ?_ | ((with_reducible refine kf_below hb1 ?_ ?_); (focus (simp only [World.size_alloc, World.size_setCell, World.size_drew, size_drewN]; omega))) | ((with_reducible refine kf_alloc _ ?_ ?_); (focus (first | (simp only [World.size_alloc, World.size_setCell, World.size_drew, size_drewN]; omega) | (dsimp only; omega)))) | with_reducible refine bl_alloc ?_ _ | with_reducible refine bl_drew ?_ | with_reducible refine bl_drewN ?_ _ | ((with_reducible refine bl_set ?_ ?_ _); (focus (dsimp only; omega))) | with_reducible refine bl_call ?_ hb1 | with_reducible refine gro_alloc ?_ _ | with_reducible refine gro_drew ?_ | with_reducible refine gro_drewN ?_ _ | ((with_reducible refine gro_set ?_ ?_ _); (focus (first | omega | (dsimp only; omega)))) | with_reducible refine gro_call ?_ hk1))
  have hB2 : Below w.heap.size w w2 := bl_call hB1 hb2
  have ow1 := own_keeps ho1.out hb2
  have ow2 := ho2.out
  refine bodyPost_ret (v := .agg #[.slice v1 k m1, .slice v2 k m2]) (by simp [results, Try.results85, go_sem, r20, r21, hg2, Nat.ne_of_lt hg2]) rfl ⟨_, _, rfl, ?_, ?_, ?_⟩
  · refine Go.Joins.ownsRow_le (ownsRow_setCell_below (ownsRow_setCell_below ow1 ?_ _) ?_ _) ?_
    all_goals simp only [World.size_alloc, World.size_drew, size_drewN]
    all_goals omega
  · refine Go.Joins.ownsRow_le (ownsRow_setCell_below (ownsRow_setCell_below ow2 ?_ _) ?_ _) ?_
    all_goals (try dsimp only)
    all_goals omega
  · exact (hB2.setCell (by simp) _).setCell (by simp) _
end Go.Proofs.Ytoenimkgagndnaa

/- Walks of the statements' own helper same; slices of integers that are only read. -/
namespace Go.Proofs.Ytoenimkgagndnaa
set_option linter.unusedVariables false
set_option linter.unusedSimpArgs false
open Go.RowKit Go.Lib

/-- A slice of integers reads as a list. -/
def Rd (W : World) (v : Value) (xs : List Int) : Prop :=
  ∃ (a : Option Addr) (cap : Nat), v = .slice a xs.length cap ∧ xs.length ≤ cap ∧ (xs = [] ∨ ∃ g o, a = some ⟨g, o, none⟩ ∧ ∀ i, i < xs.length → W.cell? ⟨g, o + i, none⟩ = some (.int .i64 (xs.getD i 0)))
theorem Rd.below {W W1 : World} {v : Value} {xs : List Int} (h : Rd W v xs) (hb : Below W.heap.size W W1) : Rd W1 v xs := by
  obtain ⟨a, cap, rfl, hc, h⟩ := h
  refine ⟨a, cap, rfl, hc, h.imp_right ?_⟩
  rintro ⟨g, o, rfl, hc2⟩
  exact ⟨g, o, rfl, fun i hi => kc_below hb (hc2 i hi)⟩

def sameB (xs ys : List Int) : Bool := decide (xs = ys)
theorem ext_getD {xs ys : List Int} (hl : xs.length = ys.length) (h : ∀ i, i < xs.length → xs.getD i 0 = ys.getD i 0) : xs = ys := by
  apply List.ext_getElem hl
  intro i h1 h2
  have := h i h1
  simpa [h1, h2] using this

set_option maxHeartbeats 1000000 in
theorem same_eq (N g o cap q p cap' : Nat) (xs ys : List Int) (w : World) (hx : Hid (xs.length = N)) (hy : Hid (ys.length = N)) (hN : N ≤ 4611686018427387904) (hc : N ≤ cap) (hc' : N ≤ cap')
    (HV : Hid (∀ i, i < xs.length → w.cell? ⟨g, o + i, none⟩ = some (.int .i64 (xs.getD i 0)))) (HU : Hid (∀ i, i < ys.length → w.cell? ⟨q, p + i, none⟩ = some (.int .i64 (ys.getD i 0)))) :
    Calls Try.prog 60 #[.slice (some ⟨g, o, none⟩) N cap, .slice (some ⟨q, p, none⟩) N cap'] w fun e w' => e = .returned (.bool (sameB xs ys)) ∧ Gro w w' := by
  have t0 : ((N : Int) != (N : Int)) = false := by simp
  go_enter Try.func60, Try.ntmps60
  go_wp2_with fail
  go_loopw [5] (fun t wr => ∃ k n : Nat, k ≤ N ∧ t = .int .i64 k ∧ Hid (∀ j, j < k → xs.getD j 0 = ys.getD j 0) ∧ wr = w.drewN n) (fun t _ => N - (intOf t).toNat)
  case atStart => exact ⟨0, 0, Nat.zero_le _, rfl, fun j h => by omega, rfl⟩
  case round =>
    obtain ⟨k, n, hk, rfl, hE, rfl⟩ := hrel
    by_cases hlt : k < N
    · have c1 : w.cell? ⟨g, o + k, none⟩ = some (.int .i64 (xs.getD k 0)) := HV.out k (by rw [hx.out]; exact hlt)
      have c2 : w.cell? ⟨q, p + k, none⟩ = some (.int .i64 (ys.getD k 0)) := HU.out k (by rw [hy.out]; exact hlt)
      have hk0 : (0 : Int) ≤ (k : Int) := by omega
      have hkN : (k : Int) < (N : Int) := by omega
      by_cases he : xs.getD k 0 = ys.getD k 0
      · have hE2 : Hid (∀ j, j < k + 1 → xs.getD j 0 = ys.getD j 0) := fun j hj => by
          rcases (show j < k ∨ j = k by omega) with h | h
          · exact hE.out j h
          · rw [h]; exact he
        rw [he] at c1
        generalize ys.getD k 0 = y at *
        have t1 : (y != y) = false := by simp
        clear he hE
        go_wp2_with fail
        go_quiet (fail)
        go_wp2_with fail
        go_roundw
        case rel => exact ⟨k + 1, _, by omega, by go_num, hE2, by first | rfl | (rw [World.drewN_drewN])⟩
        case measure => simp [intOf]; omega
      · have hF : Hid (false = sameB xs ys) := by
          refine Eq.symm (?_ : sameB xs ys = false)
          unfold sameB
          simp
          rintro rfl
          exact he rfl
        generalize xs.getD k 0 = x at *
        generalize ys.getD k 0 = y at *
        have t1 : (x != y) = true := by simpa using he
        clear hE he
        go_wp2_with fail
        go_quiet (fail)
        go_wp2_with fail
        go_ret
        exact ⟨ret_bool hF.out, by (repeat (first | with_reducible rfl | with_reducible exact Below.refl _ _ | with_reducible exact gro_refl _ | with_reducible refine kc_drew ?_ | with_reducible refine kc_drewN _ ?_ | with_reducible refine kf_drew ?_ | with_reducible refine kf_drewN _ ?_ | ((with_reducible refine kc_new ?_ ?_); (focus (first | with_reducible rfl | (simp only [World.size_alloc, World.size_setCell, World.size_drew, size_drewN]; done))); (focus (first | rfl | (simp; done)))) | ((with_reducible refine kc_set0 ?_ ?_); (focus (first | rfl | (simp; done)))) | with_reducible refine ct_drew ?_ | with_reducible refine ct_drewN _ ?_ | ((with_reducible refine ct_new ?_ ?_); (focus (first | with_reducible rfl | (simp only [World.size_alloc, World.size_setCell, World.size_drew, size_drewN]; done))); (focus (first | rfl | (simp; done)))) | with_reducible refine ct_set _ _ ?_ | with_reducible refine ct_alloc _ ?_ | ((with_reducible refine kc_set ?_ ?_); (focus (first | (intro hx; injection hx; omega) | (simp; done)))) | with_reducible refine kc_alloc _ ?_ | ((with_reducible refine kf_new ?_ _); (focus (first | with_reducible rfl | (simp only [World.size_alloc, World.size_setCell, World.size_drew, size_drewN]; done)))) | with_reducible refine kf_set _ _ ?_ | ((with_reducible refine kf_alloc _ ?_ ?_); (focus (first | (simp only [World.size_alloc, World.size_setCell, World.size_drew, size_drewN]; omega) | (dsimp only; omega)))) | with_reducible refine bl_alloc ?_ _ | with_reducible refine bl_drew ?_ | with_reducible refine bl_drewN ?_ _ | ((with_reducible refine bl_set ?_ ?_ _); (focus (dsimp only; omega))) | with_reducible refine gro_alloc ?_ _ | with_reducible refine gro_drew ?_ | with_reducible refine gro_drewN ?_ _ | ((with_reducible refine gro_set ?_ ?_ _); (focus (first | omega | (dsimp only; omega))))))⟩
    · obtain rfl : k = N := by omega
      have hT : Hid (true = sameB xs ys) := by
        refine Eq.symm (?_ : sameB xs ys = true)
        unfold sameB
        simp
        exact ext_getD (by rw [hx.out, hy.out]) (by rw [hx.out]; exact hE.out)
      clear hE
      go_wp2_with fail
      go_ret
      exact ⟨ret_bool hT.out, by (repeat (first | with_reducible rfl | with_reducible exact Below.refl _ _ | with_reducible exact gro_refl _ | with_reducible refine kc_drew ?_ | with_reducible refine kc_drewN _ ?_ | with_reducible refine kf_drew ?_ | with_reducible refine kf_drewN _ ?_ | ((with_reducible refine kc_new ?_ ?_); (focus (first | with_reducible rfl | (simp only [World.size_alloc, World.size_setCell, World.size_drew, size_drewN]; done))); (focus (first | rfl | (simp; done)))) | ((with_reducible refine kc_set0 ?_ ?_); (focus (first | rfl | (simp; done)))) | with_reducible refine ct_drew ?_ | with_reducible refine ct_drewN _ ?_ | ((with_reducible refine ct_new ?_ ?_); (focus (first | with_reducible rfl | (simp only [World.size_alloc, World.size_setCell, World.size_drew, size_drewN]; done))); (focus (first | rfl | (simp; done)))) | with_reducible refine ct_set _ _ ?_ | with_reducible refine ct_alloc _ ?_ | ((with_reducible refine kc_set ?_ ?_); (focus (first | (intro hx; injection hx; omega) | (simp; done)))) | with_reducible refine kc_alloc _ ?_ | ((with_reducible refine kf_new ?_ _); (focus (first | with_reducible rfl | (simp only [World.size_alloc, World.size_setCell, World.size_drew, size_drewN]; done)))) | with_reducible refine kf_set _ _ ?_ | ((with_reducible refine kf_alloc _ ?_ ?_); (focus (first | (simp only [World.size_alloc, World.size_setCell, World.size_drew, size_drewN]; omega) | (dsimp only; omega)))) | with_reducible refine bl_alloc ?_ _ | with_reducible refine bl_drew ?_ | with_reducible refine bl_drewN ?_ _ | ((with_reducible refine bl_set ?_ ?_ _); (focus (dsimp only; omega))) | with_reducible refine gro_alloc ?_ _ | with_reducible refine gro_drew ?_ | with_reducible refine gro_drewN ?_ _ | ((with_reducible refine gro_set ?_ ?_ _); (focus (first | omega | (dsimp only; omega))))))⟩

set_option maxHeartbeats 1000000 in
theorem same_any (xs ys : List Int) (v u : Value) (w : World) (hv : Rd w v xs) (hu : Rd w u ys) (hn : xs.length ≤ 4611686018427387904) (hm : ys.length ≤ 4611686018427387904) :
    Calls Try.prog 60 #[v, u] w fun e w' => e = .returned (.bool (sameB xs ys)) ∧ Gro w w' := by
  obtain ⟨a, cap, rfl, hcap, hv⟩ := hv
  obtain ⟨b, cap', rfl, hcap', hu⟩ := hu
  by_cases hl : xs.length = ys.length
  · have t1 : ((xs.length : Int) == (ys.length : Int)) = true := by simp [hl]
    rcases hv with rfl | ⟨g, o, rfl, hv⟩
    · have : ys = [] := List.eq_nil_of_length_eq_zero hl.symm
      subst this
      go_enter Try.func60, Try.ntmps60
      go_wp2_with fail
      refine wp_loop_rounds 2 ?_
      rw [rounds_succ]
      go_wp2_with fail
      go_ret
      exact ⟨rfl, gro_refl _⟩
    · rcases hu with rfl | ⟨q, p, rfl, hu⟩
      · have : xs = [] := List.eq_nil_of_length_eq_zero hl
        subst this
        go_enter Try.func60, Try.ntmps60
        go_wp2_with fail
        refine wp_loop_rounds 2 ?_
        rw [rounds_succ]
        go_wp2_with fail
        go_ret
        exact ⟨rfl, gro_refl _⟩
      · have HV := Lib.hid hv
        have HU := Lib.hid hu
        have hcx : ys.length ≤ cap' := hcap'
        rw [← hl] at hcx ⊢
        exact same_eq xs.length g o cap q p cap' xs ys w (Lib.hid rfl) (Lib.hid hl.symm) hn hcap hcx HV HU
  · have t1 : ((xs.length : Int) != (ys.length : Int)) = true := by simp; omega
    have hs : sameB xs ys = false := by
      unfold sameB
      simp
      rintro rfl
      exact hl rfl
    rw [hs]
    go_enter Try.func60, Try.ntmps60
    go_wp2_with fail
    go_ret
    exact ⟨rfl, gro_refl _⟩
end Go.Proofs.Ytoenimkgagndnaa

/- Walks of package gear: checkAll, simplest, Between. -/
namespace Go.Proofs.Ytoenimkgagndnaa
set_option linter.unusedVariables false
set_option linter.unusedSimpArgs false
open Go.RowKit Go.Lib

/-- What checkAll returns of two fractions. -/
def ck2 (n d m e : Int) : Int := if okF n d then ckF m e else 2
theorem ck2_ok {n d m e : Int} (h : okF n d) (k : okF m e) : ck2 n d m e = 0 := by unfold ck2; rw [if_pos h, ckF_ok k]
theorem ck2_bad {n d m e : Int} (h : ¬ (okF n d ∧ okF m e)) : ck2 n d m e = 2 := by
  unfold ck2
  split
  · exact ckF_bad fun k => h ⟨‹_›, k⟩
  · rfl

set_option maxHeartbeats 1000000 in
theorem checkAll_any (n d m e : Int) (g : Nat) (w : World) (h0 : w.cell? ⟨g, 0, none⟩ = some (.int .i64 n)) (h1 : w.cell? ⟨g, 1, none⟩ = some (.int .i64 d)) (h2 : w.cell? ⟨g, 2, none⟩ = some (.int .i64 m)) (h3 : w.cell? ⟨g, 3, none⟩ = some (.int .i64 e))
    (hn : -9223372036854775808 ≤ n) (hn' : n ≤ 9223372036854775807) (hd : -9223372036854775808 ≤ d) (hd' : d ≤ 9223372036854775807) (hm : -9223372036854775808 ≤ m) (hm' : m ≤ 9223372036854775807) (he : -9223372036854775808 ≤ e) (he' : e ≤ 9223372036854775807) :
    Calls Try.prog 61 #[.slice (some ⟨g, 0, none⟩) 2 2] w fun v w' => v = .returned (.int .i64 (ck2 n d m e)) ∧ Gro w w' := by
  have hg := World.block_lt_of_cell? _ _ h0
  simp only at hg
  by_cases h : okF n d
  · have c1 := ckF_ok h
    have C2 := Lib.hid (show ckF m e = ck2 n d m e by unfold ck2; rw [if_pos h])
    by_cases k : okF m e
    · have c2 := ckF_ok k
      go_enter Try.func61, Try.ntmps61
      go_wp2_with fail
      refine wp_loop_rounds 4 ?_
      rw [rounds_succ]
      go_wp2_with (go_at_call 20; refine (check_any n d _ hn hn' hd hd').mono ?_; rintro v w1 ⟨rfl, hk1⟩; have hb1 := hk1.below; have k2 : w1.cell? ⟨g, 2, none⟩ = some (.int .i64 m) := (by (with_reducible repeat (first | exact h2 | exact h3 | refine kc_drew ?_ | refine kc_drewN _ ?_ | refine kc_below hb1 ?_ | (refine kc_new ?_ ?_; (focus first | rfl | (simp only [World.size_alloc, World.size_setCell, World.size_drew, size_drewN]; done)); (focus first | rfl | (simp; done))) | (refine kc_set0 ?_ ?_; (focus first | rfl | (simp; done))) | exact ct_of (by assumption) | refine ct_drew ?_ | refine ct_drewN _ ?_ | refine ct_below hb1 ?_ | (refine ct_new ?_ ?_; (focus first | rfl | (simp only [World.size_alloc, World.size_setCell, World.size_drew, size_drewN]; done)); (focus first | rfl | (simp; done))) | refine ct_set _ _ ?_ | refine ct_alloc _ ?_ | (refine kc_set ?_ ?_; (focus first | (intro hx; injection hx; omega) | (simp; done))) | refine kc_alloc _ ?_))); have k3 : w1.cell? ⟨g, 3, none⟩ = some (.int .i64 e) := (by (with_reducible repeat (first | exact h2 | exact h3 | refine kc_drew ?_ | refine kc_drewN _ ?_ | refine kc_below hb1 ?_ | (refine kc_new ?_ ?_; (focus first | rfl | (simp only [World.size_alloc, World.size_setCell, World.size_drew, size_drewN]; done)); (focus first | rfl | (simp; done))) | (refine kc_set0 ?_ ?_; (focus first | rfl | (simp; done))) | exact ct_of (by assumption) | refine ct_drew ?_ | refine ct_drewN _ ?_ | refine ct_below hb1 ?_ | (refine ct_new ?_ ?_; (focus first | rfl | (simp only [World.size_alloc, World.size_setCell, World.size_drew, size_drewN]; done)); (focus first | rfl | (simp; done))) | refine ct_set _ _ ?_ | refine ct_alloc _ ?_ | (refine kc_set ?_ ?_; (focus first | (intro hx; injection hx; omega) | (simp; done))) | refine kc_alloc _ ?_))))
      rw [rounds_succ]
      go_wp2_with (go_at_call 20; refine (check_any m e _ hm hm' he he').mono ?_; rintro v w2 ⟨rfl, hk2⟩; have hb2 := hk2.below)
      rw [rounds_succ]
      go_wp2_with fail
      go_ret
      exact ⟨ret_i64 (by rw [← C2.out, c2]), by (repeat (first | with_reducible rfl | with_reducible exact Below.refl _ _ | with_reducible exact gro_refl _ | with_reducible refine kc_drew ?_ | with_reducible refine kc_drewN _ ?_ | with_reducible refine kf_drew ?_ | with_reducible refine kf_drewN _ ?_ | with_reducible refine kc_below hb1 ?_ | with_reducible refine kc_below hb2 ?_ | ((with_reducible refine kc_new ?_ ?_); (focus (first | with_reducible rfl | (simp only [World.size_alloc, World.size_setCell, World.size_drew, size_drewN]; done))); (focus (first | rfl | (simp; done)))) | ((with_reducible refine kc_set0 ?_ ?_); (focus (first | rfl | (simp; done)))) | with_reducible refine ct_drew ?_ | with_reducible refine ct_drewN _ ?_ | with_reducible refine ct_below hb1 ?_ | with_reducible refine ct_below hb2 ?_ | ((with_reducible refine ct_new ?_ ?_); (focus (first | with_reducible rfl | (simp only [World.size_alloc, World.size_setCell, World.size_drew, size_drewN]; done))); (focus (first | rfl | (simp; done)))) | with_reducible refine ct_set _ _ ?_ | with_reducible refine ct_alloc _ ?_ | ((with_reducible refine kc_set ?_ ?_); (focus (first | (intro hx; injection hx; omega) | (simp; done)))) | with_reducible refine kc_alloc _ ?_ | ((with_reducible refine kf_new ?_ _); (focus (first | with_reducible rfl | (simp only [World.size_alloc, World.size_setCell, World.size_drew, size_drewN]; done)))) | with_reducible refine kf_set _ _ ?_ | ((with_reducible refine kf_below hb1 ?_ ?_); (focus (simp only [World.size_alloc, World.size_setCell, World.size_drew, size_drewN]; omega))) | ((with_reducible refine kf_below hb2 ?_ ?_); (focus (simp only [World.size_alloc, World.size_setCell, World.size_drew, size_drewN]; omega))) | ((with_reducible refine kf_alloc _ ?_ ?_); (focus (first | (simp only [World.size_alloc, World.size_setCell, World.size_drew, size_drewN]; omega) | (dsimp only; omega)))) | with_reducible refine bl_alloc ?_ _ | with_reducible refine bl_drew ?_ | with_reducible refine bl_drewN ?_ _ | ((with_reducible refine bl_set ?_ ?_ _); (focus (dsimp only; omega))) | with_reducible refine bl_call ?_ hb1 | with_reducible refine bl_call ?_ hb2 | with_reducible refine gro_alloc ?_ _ | with_reducible refine gro_drew ?_ | with_reducible refine gro_drewN ?_ _ | ((with_reducible refine gro_set ?_ ?_ _); (focus (first | omega | (dsimp only; omega)))) | with_reducible refine gro_call ?_ hk1 | with_reducible refine gro_call ?_ hk2))⟩
    · have c2 := ckF_bad k
      go_enter Try.func61, Try.ntmps61
      go_wp2_with fail
      refine wp_loop_rounds 4 ?_
      rw [rounds_succ]
      go_wp2_with (go_at_call 20; refine (check_any n d _ hn hn' hd hd').mono ?_; rintro v w1 ⟨rfl, hk1⟩; have hb1 := hk1.below; have k2 : w1.cell? ⟨g, 2, none⟩ = some (.int .i64 m) := (by (with_reducible repeat (first | exact h2 | exact h3 | refine kc_drew ?_ | refine kc_drewN _ ?_ | refine kc_below hb1 ?_ | (refine kc_new ?_ ?_; (focus first | rfl | (simp only [World.size_alloc, World.size_setCell, World.size_drew, size_drewN]; done)); (focus first | rfl | (simp; done))) | (refine kc_set0 ?_ ?_; (focus first | rfl | (simp; done))) | exact ct_of (by assumption) | refine ct_drew ?_ | refine ct_drewN _ ?_ | refine ct_below hb1 ?_ | (refine ct_new ?_ ?_; (focus first | rfl | (simp only [World.size_alloc, World.size_setCell, World.size_drew, size_drewN]; done)); (focus first | rfl | (simp; done))) | refine ct_set _ _ ?_ | refine ct_alloc _ ?_ | (refine kc_set ?_ ?_; (focus first | (intro hx; injection hx; omega) | (simp; done))) | refine kc_alloc _ ?_))); have k3 : w1.cell? ⟨g, 3, none⟩ = some (.int .i64 e) := (by (with_reducible repeat (first | exact h2 | exact h3 | refine kc_drew ?_ | refine kc_drewN _ ?_ | refine kc_below hb1 ?_ | (refine kc_new ?_ ?_; (focus first | rfl | (simp only [World.size_alloc, World.size_setCell, World.size_drew, size_drewN]; done)); (focus first | rfl | (simp; done))) | (refine kc_set0 ?_ ?_; (focus first | rfl | (simp; done))) | exact ct_of (by assumption) | refine ct_drew ?_ | refine ct_drewN _ ?_ | refine ct_below hb1 ?_ | (refine ct_new ?_ ?_; (focus first | rfl | (simp only [World.size_alloc, World.size_setCell, World.size_drew, size_drewN]; done)); (focus first | rfl | (simp; done))) | refine ct_set _ _ ?_ | refine ct_alloc _ ?_ | (refine kc_set ?_ ?_; (focus first | (intro hx; injection hx; omega) | (simp; done))) | refine kc_alloc _ ?_))))
      rw [rounds_succ]
      go_wp2_with (go_at_call 20; refine (check_any m e _ hm hm' he he').mono ?_; rintro v w2 ⟨rfl, hk2⟩; have hb2 := hk2.below)
      go_ret
      exact ⟨ret_i64 (by rw [← C2.out, c2]), by (repeat (first | with_reducible rfl | with_reducible exact Below.refl _ _ | with_reducible exact gro_refl _ | with_reducible refine kc_drew ?_ | with_reducible refine kc_drewN _ ?_ | with_reducible refine kf_drew ?_ | with_reducible refine kf_drewN _ ?_ | with_reducible refine kc_below hb1 ?_ | with_reducible refine kc_below hb2 ?_ | ((with_reducible refine kc_new ?_ ?_); (focus (first | with_reducible rfl | (simp only [World.size_alloc, World.size_setCell, World.size_drew, size_drewN]; done))); (focus (first | rfl | (simp; done)))) | ((with_reducible refine kc_set0 ?_ ?_); (focus (first | rfl | (simp; done)))) | with_reducible refine ct_drew ?_ | with_reducible refine ct_drewN _ ?_ | with_reducible refine ct_below hb1 ?_ | with_reducible refine ct_below hb2 ?_ | ((with_reducible refine ct_new ?_ ?_); (focus (first | with_reducible rfl | (simp only [World.size_alloc, World.size_setCell, World.size_drew, size_drewN]; done))); (focus (first | rfl | (simp; done)))) | with_reducible refine ct_set _ _ ?_ | with_reducible refine ct_alloc _ ?_ | ((with_reducible refine kc_set ?_ ?_); (focus (first | (intro hx; injection hx; omega) | (simp; done)))) | with_reducible refine kc_alloc _ ?_ | ((with_reducible refine kf_new ?_ _); (focus (first | with_reducible rfl | (simp only [World.size_alloc, World.size_setCell, World.size_drew, size_drewN]; done)))) | with_reducible refine kf_set _ _ ?_ | ((with_reducible refine kf_below hb1 ?_ ?_); (focus (simp only [World.size_alloc, World.size_setCell, World.size_drew, size_drewN]; omega))) | ((with_reducible refine kf_below hb2 ?_ ?_); (focus (simp only [World.size_alloc, World.size_setCell, World.size_drew, size_drewN]; omega))) | ((with_reducible refine kf_alloc _ ?_ ?_); (focus (first | (simp only [World.size_alloc, World.size_setCell, World.size_drew, size_drewN]; omega) | (dsimp only; omega)))) | with_reducible refine bl_alloc ?_ _ | with_reducible refine bl_drew ?_ | with_reducible refine bl_drewN ?_ _ | ((with_reducible refine bl_set ?_ ?_ _); (focus (dsimp only; omega))) | with_reducible refine bl_call ?_ hb1 | with_reducible refine bl_call ?_ hb2 | with_reducible refine gro_alloc ?_ _ | with_reducible refine gro_drew ?_ | with_reducible refine gro_drewN ?_ _ | ((with_reducible refine gro_set ?_ ?_ _); (focus (first | omega | (dsimp only; omega)))) | with_reducible refine gro_call ?_ hk1 | with_reducible refine gro_call ?_ hk2))⟩
  · have c1 := ckF_bad h
    have C2 := Lib.hid (show (2 : Int) = ck2 n d m e by unfold ck2; rw [if_neg h])
    go_enter Try.func61, Try.ntmps61
    go_wp2_with fail
    refine wp_loop_rounds 4 ?_
    rw [rounds_succ]
    go_wp2_with (go_at_call 20; refine (check_any n d _ hn hn' hd hd').mono ?_; rintro v w1 ⟨rfl, hk1⟩; have hb1 := hk1.below)
    go_ret
    exact ⟨ret_i64 C2.out, by (repeat (first | with_reducible rfl | with_reducible exact Below.refl _ _ | with_reducible exact gro_refl _ | with_reducible refine kc_drew ?_ | with_reducible refine kc_drewN _ ?_ | with_reducible refine kf_drew ?_ | with_reducible refine kf_drewN _ ?_ | with_reducible refine kc_below hb1 ?_ | ((with_reducible refine kc_new ?_ ?_); (focus (first | with_reducible rfl | (simp only [World.size_alloc, World.size_setCell, World.size_drew, size_drewN]; done))); (focus (first | rfl | (simp; done)))) | ((with_reducible refine kc_set0 ?_ ?_); (focus (first | rfl | (simp; done)))) | with_reducible refine ct_drew ?_ | with_reducible refine ct_drewN _ ?_ | with_reducible refine ct_below hb1 ?_ | ((with_reducible refine ct_new ?_ ?_); (focus (first | with_reducible rfl | (simp only [World.size_alloc, World.size_setCell, World.size_drew, size_drewN]; done))); (focus (first | rfl | (simp; done)))) | with_reducible refine ct_set _ _ ?_ | with_reducible refine ct_alloc _ ?_ | ((with_reducible refine kc_set ?_ ?_); (focus (first | (intro hx; injection hx; omega) | (simp; done)))) | with_reducible refine kc_alloc _ ?_ | ((with_reducible refine kf_new ?_ _); (focus (first | with_reducible rfl | (simp only [World.size_alloc, World.size_setCell, World.size_drew, size_drewN]; done)))) | with_reducible refine kf_set _ _ ?_ | ((with_reducible refine kf_below hb1 ?_ ?_); (focus (simp only [World.size_alloc, World.size_setCell, World.size_drew, size_drewN]; omega))) | ((with_reducible refine kf_alloc _ ?_ ?_); (focus (first | (simp only [World.size_alloc, World.size_setCell, World.size_drew, size_drewN]; omega) | (dsimp only; omega)))) | with_reducible refine bl_alloc ?_ _ | with_reducible refine bl_drew ?_ | with_reducible refine bl_drewN ?_ _ | ((with_reducible refine bl_set ?_ ?_ _); (focus (dsimp only; omega))) | with_reducible refine bl_call ?_ hb1 | with_reducible refine gro_alloc ?_ _ | with_reducible refine gro_drew ?_ | with_reducible refine gro_drewN ?_ _ | ((with_reducible refine gro_set ?_ ?_ _); (focus (first | omega | (dsimp only; omega)))) | with_reducible refine gro_call ?_ hk1))⟩
end Go.Proofs.Ytoenimkgagndnaa

/- Walks of package gear: simplest. -/
namespace Go.Proofs.Ytoenimkgagndnaa
set_option linter.unusedVariables false
set_option linter.unusedSimpArgs false
open Go.RowKit Go.Lib

/-- The simplest fraction between two that are above 0. -/
def simp2 : Nat → Int → Int → Int → Int → Int × Int
  | 0, _, _, _, _ => (1, 1)
  | k + 1, n, d, m, e => if n % d = 0 then (n / d, 1) else if n / d < m / e then (n / d + 1, 1) else
    (n / d * (simp2 k e (m % e) d (n % d)).1 + (simp2 k e (m % e) d (n % d)).2, (simp2 k e (m % e) d (n % d)).1)

/-- Both bounds are above 0 and in order. -/
structure Two (n d m e : Int) : Prop where
  n1 : 1 ≤ n
  d1 : 1 ≤ d
  m1 : 1 ≤ m
  e1 : 1 ≤ e
  le : n * e ≤ m * d

theorem two_rest {n d m e : Int} (h : Two n d m e) (hr : n % d ≠ 0) (hq : ¬ n / d < m / e) : n / d = m / e ∧ 1 ≤ n % d ∧ 1 ≤ m % e ∧ n % d < d ∧ m % e < e ∧ Two e (m % e) d (n % d) := by
  obtain ⟨n1, d1, m1, e1, hle⟩ := h
  have a1 := Int.emod_add_mul_ediv n d
  have a2 := Int.emod_add_mul_ediv m e
  have b1 := Int.emod_nonneg n (show d ≠ 0 by omega)
  have b2 := Int.emod_nonneg m (show e ≠ 0 by omega)
  have c1 := Int.emod_lt_of_pos n (show 0 < d by omega)
  have c2 := Int.emod_lt_of_pos m (show 0 < e by omega)
  generalize n / d = q at *
  generalize m / e = p at *
  generalize n % d = r at *
  generalize m % e = s at *
  have hqp : q = p := by
    rcases show p < q ∨ q ≤ p by omega with h | h
    · exfalso
      -- n ≥ q d, m ≤ p e + e - 1, q ≥ p + 1
      have h1 : d * (p + 1) ≤ d * q := Int.mul_le_mul_of_nonneg_left (by omega) (by omega)
      have h2 : (d * (p + 1) + r) * e ≤ (r + d * q) * e := Int.mul_le_mul_of_nonneg_right (by omega) (by omega)
      have h3 : n * e = (r + d * q) * e := by rw [a1]
      have h4 : m * d = (s + e * p) * d := by rw [a2]
      have h5 : (d * (p + 1) + r) * e ≤ (s + e * p) * d := by omega
      have h6 : (d * (p + 1) + r) * e = d * p * e + d * e + r * e := by grind
      have h7 : (s + e * p) * d = s * d + d * p * e := by grind
      have h8 : s * d < e * d := Int.mul_lt_mul_of_pos_right c2 (by omega)
      have h9 : 0 ≤ r * e := Int.mul_nonneg b1 (by omega)
      have h10 : e * d = d * e := Int.mul_comm _ _
      omega
    · omega
  subst hqp
  have hs : r * e ≤ s * d := by
    have h3 : n * e = (r + d * q) * e := by rw [a1]
    have h4 : m * d = (s + e * q) * d := by rw [a2]
    have h6 : (r + d * q) * e = r * e + d * q * e := by grind
    have h7 : (s + e * q) * d = s * d + d * q * e := by grind
    omega
  have hr1 : 1 ≤ r := by omega
  have hs1 : 1 ≤ s := by
    rcases show 0 < s ∨ s ≤ 0 by omega with h | h
    · omega
    · exfalso
      have : s = 0 := by omega
      subst this
      have : 1 * 1 ≤ r * e := Int.mul_le_mul hr1 e1 (by omega) (by omega)
      omega
  refine ⟨rfl, hr1, hs1, c1, c2, e1, hs1, d1, hr1, ?_⟩
  rw [Int.mul_comm e r, Int.mul_comm d s]
  exact hs

/-- It is at most as great, above and below, as both bounds. -/
theorem simp_le : ∀ (k : Nat) {n d m e : Int}, Two n d m e → d + e ≤ k → (1 ≤ (simp2 k n d m e).1 ∧ (simp2 k n d m e).1 ≤ n ∧ (simp2 k n d m e).1 ≤ m) ∧ 1 ≤ (simp2 k n d m e).2 ∧ (simp2 k n d m e).2 ≤ d ∧ (simp2 k n d m e).2 ≤ e
  | 0, n, d, m, e, h, hk => by have := h.d1; have := h.e1; omega
  | k + 1, n, d, m, e, h, hk => by
    have a1 := Int.emod_add_mul_ediv n d
    have a2 := Int.emod_add_mul_ediv m e
    have b1 := Int.emod_nonneg n (show d ≠ 0 by have := h.d1; omega)
    have b2 := Int.emod_nonneg m (show e ≠ 0 by have := h.e1; omega)
    have n1 := h.n1
    have d1 := h.d1
    have m1 := h.m1
    have e1 := h.e1
    have hq0 : 0 ≤ n / d := Int.ediv_nonneg (by omega) (by omega)
    have hp0 : 0 ≤ m / e := Int.ediv_nonneg (by omega) (by omega)
    have hqd : n / d ≤ d * (n / d) := by
      have := Int.mul_le_mul_of_nonneg_right d1 hq0
      omega
    have hpe : m / e ≤ e * (m / e) := by
      have := Int.mul_le_mul_of_nonneg_right e1 hp0
      omega
    unfold simp2
    by_cases hr : n % d = 0
    · rw [if_pos hr]
      simp only
      have hq1 : 1 ≤ n / d := by
        rcases show 0 < n / d ∨ n / d ≤ 0 by omega with h | h
        · omega
        · exfalso
          have : n / d = 0 := by omega
          rw [this] at a1
          omega
      have hqm : n / d ≤ m / e := by
        refine (Int.le_ediv_iff_mul_le (by omega)).2 ?_
        have h1 : n = d * (n / d) := by omega
        have h2 := h.le
        rw [h1] at h2
        have h3 : d * (n / d) * e = n / d * e * d := by grind
        have h4 : n / d * e * d ≤ m * d := by rw [← h3]; exact h2
        exact Int.le_of_mul_le_mul_right h4 (by omega)
      omega
    · rw [if_neg hr]
      by_cases hq : n / d < m / e
      · rw [if_pos hq]
        simp only
        have c1 := Int.emod_lt_of_pos n (show 0 < d by omega)
        have hd2 : 2 * (n / d) ≤ d * (n / d) := Int.mul_le_mul_of_nonneg_right (by omega) hq0
        omega
      · rw [if_neg hq]
        obtain ⟨hqp, r1, s1, c1, c2, h2⟩ := two_rest h hr hq
        have ih := simp_le k h2 (by omega)
        generalize simp2 k e (m % e) d (n % d) = z at *
        obtain ⟨x, y⟩ := z
        simp only at ih ⊢
        obtain ⟨⟨i1, i2, i3⟩, i4, i5, i6⟩ := ih
        have u1 : n / d * x ≤ n / d * d := Int.mul_le_mul_of_nonneg_left i3 hq0
        have u2 : m / e * x ≤ m / e * e := Int.mul_le_mul_of_nonneg_left i2 hp0
        have u3 : 0 ≤ n / d * x := Int.mul_nonneg hq0 (by omega)
        rw [← hqp] at u2 a2
        have v1 : n / d * d = d * (n / d) := Int.mul_comm _ _
        have v2 : n / d * e = e * (n / d) := Int.mul_comm _ _
        omega

set_option maxHeartbeats 2000000 in
set_option maxRecDepth 100000 in
theorem simplest_any : ∀ (k : Nat) (n d m e : Int) (w : World), Two n d m e → d + e ≤ k → n ≤ 4611686018427387904 → d ≤ 4611686018427387904 → m ≤ 4611686018427387904 → e ≤ 4611686018427387904 →
    Calls Try.prog 64 #[.agg #[.int .i64 n, .int .i64 d], .agg #[.int .i64 m, .int .i64 e]] w fun v w' => v = .returned (.agg #[.int .i64 (simp2 k n d m e).1, .int .i64 (simp2 k n d m e).2]) ∧ Gro w w'
  | 0, n, d, m, e, w, h, hk, _, _, _, _ => by have := h.d1; have := h.e1; omega
  | k + 1, n, d, m, e, w, h, hk, hn, hd, hm, he => by
    have n1 := h.n1
    have d1 := h.d1
    have m1 := h.m1
    have e1 := h.e1
    have q0 : 0 ≤ n / d := Int.ediv_nonneg (by omega) (by omega)
    have q9 : n / d ≤ n := Int.ediv_le_self _ (by omega)
    have p0 : 0 ≤ m / e := Int.ediv_nonneg (by omega) (by omega)
    have p9 : m / e ≤ m := Int.ediv_le_self _ (by omega)
    have r0 := Int.emod_nonneg n (show d ≠ 0 by omega)
    have r9 := Int.emod_lt_of_pos n (show 0 < d by omega)
    have s0 := Int.emod_nonneg m (show e ≠ 0 by omega)
    have s9 := Int.emod_lt_of_pos m (show 0 < e by omega)
    have x1 : n.tdiv d = n / d := Int.tdiv_eq_ediv_of_nonneg (by omega)
    have x2 : n.tmod d = n % d := Int.tmod_eq_emod_of_nonneg (by omega)
    have x3 : m.tdiv e = m / e := Int.tdiv_eq_ediv_of_nonneg (by omega)
    have x4 : m.tmod e = m % e := Int.tmod_eq_emod_of_nonneg (by omega)
    have y1 : IntKind.i64.wrap (n / d) = n / d := IntWalk.i64_in _ (by omega)
    have y2 : IntKind.i64.wrap (n % d) = n % d := IntWalk.i64_in _ (by omega)
    have y4 : IntKind.i64.wrap (m % e) = m % e := IntWalk.i64_in _ (by omega)
    have zd : (d == 0) = false := by simp; omega
    have ze : (e == 0) = false := by simp; omega
    have ze2 : ¬ e = 0 := by omega
    have hsz : w.heap.size < w.heap.size + 1 + 1 + 1 := by omega
    by_cases hr : n % d = 0
    · have E : simp2 (k + 1) n d m e = (n / d, 1) := by show (if _ then _ else _) = _; rw [if_pos hr]
      rw [E]
      clear E
      go_enter Try.func64, Try.ntmps64
      go_wp2_with fail
      go_quiet (fail)
      go_wp2_with fail
      exact bodyPost_ret (v := .agg #[.int .i64 (n / d), .int .i64 1]) (by simp [results, Try.results64, go_sem]) rfl ⟨rfl, by (repeat (first | with_reducible rfl | with_reducible exact Below.refl _ _ | with_reducible exact gro_refl _ | with_reducible refine kc_drew ?_ | with_reducible refine kc_drewN _ ?_ | with_reducible refine kf_drew ?_ | with_reducible refine kf_drewN _ ?_ | ((with_reducible refine kc_new ?_ ?_); (focus (first | with_reducible rfl | (simp only [World.size_alloc, World.size_setCell, World.size_drew, size_drewN]; done))); (focus (first | rfl | (simp; done)))) | ((with_reducible refine kc_set0 ?_ ?_); (focus (first | rfl | (simp; done)))) | with_reducible refine ct_drew ?_ | with_reducible refine ct_drewN _ ?_ | ((with_reducible refine ct_new ?_ ?_); (focus (first | with_reducible rfl | (simp only [World.size_alloc, World.size_setCell, World.size_drew, size_drewN]; done))); (focus (first | rfl | (simp; done)))) | with_reducible refine ct_set _ _ ?_ | with_reducible refine ct_alloc _ ?_ | ((with_reducible refine kc_set ?_ ?_); (focus (first | (intro hx; injection hx; omega) | (simp; done)))) | with_reducible refine kc_alloc _ ?_ | ((with_reducible refine kf_new ?_ _); (focus (first | with_reducible rfl | (simp only [World.size_alloc, World.size_setCell, World.size_drew, size_drewN]; done)))) | with_reducible refine kf_set _ _ ?_ | ((with_reducible refine kf_alloc _ ?_ ?_); (focus (first | (simp only [World.size_alloc, World.size_setCell, World.size_drew, size_drewN]; omega) | (dsimp only; omega)))) | with_reducible refine bl_alloc ?_ _ | with_reducible refine bl_drew ?_ | with_reducible refine bl_drewN ?_ _ | ((with_reducible refine bl_set ?_ ?_ _); (focus (dsimp only; omega))) | with_reducible refine gro_alloc ?_ _ | with_reducible refine gro_drew ?_ | with_reducible refine gro_drewN ?_ _ | ((with_reducible refine gro_set ?_ ?_ _); (focus (first | omega | (dsimp only; omega))))))⟩
    · by_cases hq : n / d < m / e
      · have E : simp2 (k + 1) n d m e = (n / d + 1, 1) := by show (if _ then _ else _) = _; rw [if_neg hr, if_pos hq]
        rw [E]
        clear E
        have hr' : 1 ≤ n % d := by omega
        go_enter Try.func64, Try.ntmps64
        go_wp2_with fail
        go_quiet (fail)
        go_wp2_with fail
        exact bodyPost_ret (v := .agg #[.int .i64 (n / d + 1), .int .i64 1]) (by simp [results, Try.results64, go_sem]) rfl ⟨rfl, by (repeat (first | with_reducible rfl | with_reducible exact Below.refl _ _ | with_reducible exact gro_refl _ | with_reducible refine kc_drew ?_ | with_reducible refine kc_drewN _ ?_ | with_reducible refine kf_drew ?_ | with_reducible refine kf_drewN _ ?_ | ((with_reducible refine kc_new ?_ ?_); (focus (first | with_reducible rfl | (simp only [World.size_alloc, World.size_setCell, World.size_drew, size_drewN]; done))); (focus (first | rfl | (simp; done)))) | ((with_reducible refine kc_set0 ?_ ?_); (focus (first | rfl | (simp; done)))) | with_reducible refine ct_drew ?_ | with_reducible refine ct_drewN _ ?_ | ((with_reducible refine ct_new ?_ ?_); (focus (first | with_reducible rfl | (simp only [World.size_alloc, World.size_setCell, World.size_drew, size_drewN]; done))); (focus (first | rfl | (simp; done)))) | with_reducible refine ct_set _ _ ?_ | with_reducible refine ct_alloc _ ?_ | ((with_reducible refine kc_set ?_ ?_); (focus (first | (intro hx; injection hx; omega) | (simp; done)))) | with_reducible refine kc_alloc _ ?_ | ((with_reducible refine kf_new ?_ _); (focus (first | with_reducible rfl | (simp only [World.size_alloc, World.size_setCell, World.size_drew, size_drewN]; done)))) | with_reducible refine kf_set _ _ ?_ | ((with_reducible refine kf_alloc _ ?_ ?_); (focus (first | (simp only [World.size_alloc, World.size_setCell, World.size_drew, size_drewN]; omega) | (dsimp only; omega)))) | with_reducible refine bl_alloc ?_ _ | with_reducible refine bl_drew ?_ | with_reducible refine bl_drewN ?_ _ | ((with_reducible refine bl_set ?_ ?_ _); (focus (dsimp only; omega))) | with_reducible refine gro_alloc ?_ _ | with_reducible refine gro_drew ?_ | with_reducible refine gro_drewN ?_ _ | ((with_reducible refine gro_set ?_ ?_ _); (focus (first | omega | (dsimp only; omega))))))⟩
      · obtain ⟨hqp, hr', hs', _, _, h2⟩ := two_rest h hr hq
        have E : simp2 (k + 1) n d m e = (n / d * (simp2 k e (m % e) d (n % d)).1 + (simp2 k e (m % e) d (n % d)).2, (simp2 k e (m % e) d (n % d)).1) := by show (if _ then _ else _) = _; rw [if_neg hr, if_neg hq]
        have L := simp_le k h2 (by omega)
        have IH := fun W => Lib.hid (simplest_any k e (m % e) d (n % d) W h2 (by omega) he (by omega) hd (by omega))
        have L2 := simp_le (k + 1) h hk
        rw [E] at L2 ⊢
        clear E h h2 hr hqp
        generalize simp2 k e (m % e) d (n % d) = z at *
        obtain ⟨x, y⟩ := z
        simp only at L L2 IH ⊢
        obtain ⟨⟨l1, l2, l3⟩, l4, l5, l6⟩ := L
        obtain ⟨⟨l7, l8, l9⟩, l10, l11, l12⟩ := L2
        have t1 : 0 ≤ n / d * x := Int.mul_nonneg q0 (by omega)
        go_enter Try.func64, Try.ntmps64
        go_wp2_with fail
        go_quiet (fail)
        go_wp2_with fail
        go_region_held3 (fun w' => (w'.cell? ⟨w.heap.size, 0, none⟩ = some (.int .i64 n) ∧ w'.cell? ⟨w.heap.size, 1, none⟩ = some (.int .i64 d)) ∧ w'.cell? ⟨w.heap.size + 1, 0, none⟩ = some (.int .i64 m) ∧ w'.cell? ⟨w.heap.size + 1, 1, none⟩ = some (.int .i64 e))
          (((try dsimp only); (repeat' apply And.intro)) <;> (repeat (first | with_reducible rfl | with_reducible exact Below.refl _ _ | with_reducible exact gro_refl _ | with_reducible refine kc_drew ?_ | with_reducible refine kc_drewN _ ?_ | with_reducible refine kf_drew ?_ | with_reducible refine kf_drewN _ ?_ | with_reducible refine kc_below hb1 ?_ | ((with_reducible refine kc_new ?_ ?_); (focus (first | with_reducible rfl | (simp only [World.size_alloc, World.size_setCell, World.size_drew, size_drewN]; done))); (focus (first | rfl | (simp; done)))) | ((with_reducible refine kc_set0 ?_ ?_); (focus (first | rfl | (simp; done)))) | with_reducible refine ct_drew ?_ | with_reducible refine ct_drewN _ ?_ | with_reducible refine ct_below hb1 ?_ | ((with_reducible refine ct_new ?_ ?_); (focus (first | with_reducible rfl | (simp only [World.size_alloc, World.size_setCell, World.size_drew, size_drewN]; done))); (focus (first | rfl | (simp; done)))) | with_reducible refine ct_set _ _ ?_ | with_reducible refine ct_alloc _ ?_ | ((with_reducible refine kc_set ?_ ?_); (focus (first | (intro hx; injection hx; omega) | (simp; done)))) | with_reducible refine kc_alloc _ ?_ | ((with_reducible refine kf_new ?_ _); (focus (first | with_reducible rfl | (simp only [World.size_alloc, World.size_setCell, World.size_drew, size_drewN]; done)))) | with_reducible refine kf_set _ _ ?_ | ((with_reducible refine kf_below hb1 ?_ ?_); (focus (simp only [World.size_alloc, World.size_setCell, World.size_drew, size_drewN]; omega))) | ((with_reducible refine kf_alloc _ ?_ ?_); (focus (first | (simp only [World.size_alloc, World.size_setCell, World.size_drew, size_drewN]; omega) | (dsimp only; omega)))) | with_reducible refine bl_alloc ?_ _ | with_reducible refine bl_drew ?_ | with_reducible refine bl_drewN ?_ _ | ((with_reducible refine bl_set ?_ ?_ _); (focus (dsimp only; omega))) | with_reducible refine bl_call ?_ hb1 | with_reducible refine gro_alloc ?_ _ | with_reducible refine gro_drew ?_ | with_reducible refine gro_drewN ?_ _ | ((with_reducible refine gro_set ?_ ?_ _); (focus (first | omega | (dsimp only; omega)))) | with_reducible refine gro_call ?_ hk1)))
          (first | (go_at_call 64; refine (IH _).out.mono ?_; rintro v w1 ⟨rfl, hk1⟩; have hb1 := hk1.below; obtain ⟨hc1, hf1⟩ := bcell hb1; simp only [World.size_alloc, World.size_drew, size_drewN] at hc1 hf1; have hz1 : w.heap.size + 3 ≤ w1.heap.size := (by have := hb1.size; simp only [World.size_alloc, World.size_drew, size_drewN] at this; omega); have rr0 : w1.cell? ⟨w.heap.size + 1 + 1, 0, none⟩ = some (.int .i64 0) := (by (with_reducible repeat (first | refine kc_drew ?_ | refine kc_drewN _ ?_ | refine kc_below hb1 ?_ | (refine kc_new ?_ ?_; (focus first | rfl | (simp only [World.size_alloc, World.size_setCell, World.size_drew, size_drewN]; done)); (focus first | rfl | (simp; done))) | (refine kc_set0 ?_ ?_; (focus first | rfl | (simp; done))) | exact ct_of (by assumption) | refine ct_drew ?_ | refine ct_drewN _ ?_ | refine ct_below hb1 ?_ | (refine ct_new ?_ ?_; (focus first | rfl | (simp only [World.size_alloc, World.size_setCell, World.size_drew, size_drewN]; done)); (focus first | rfl | (simp; done))) | refine ct_set _ _ ?_ | refine ct_alloc _ ?_ | (refine kc_set ?_ ?_; (focus first | (intro hx; injection hx; omega) | (simp; done))) | refine kc_alloc _ ?_))); have rr1 : w1.cell? ⟨w.heap.size + 1 + 1, 1, none⟩ = some (.int .i64 0) := (by (with_reducible repeat (first | refine kc_drew ?_ | refine kc_drewN _ ?_ | refine kc_below hb1 ?_ | (refine kc_new ?_ ?_; (focus first | rfl | (simp only [World.size_alloc, World.size_setCell, World.size_drew, size_drewN]; done)); (focus first | rfl | (simp; done))) | (refine kc_set0 ?_ ?_; (focus first | rfl | (simp; done))) | exact ct_of (by assumption) | refine ct_drew ?_ | refine ct_drewN _ ?_ | refine ct_below hb1 ?_ | (refine ct_new ?_ ?_; (focus first | rfl | (simp only [World.size_alloc, World.size_setCell, World.size_drew, size_drewN]; done)); (focus first | rfl | (simp; done))) | refine ct_set _ _ ?_ | refine ct_alloc _ ?_ | (refine kc_set ?_ ?_; (focus first | (intro hx; injection hx; omega) | (simp; done))) | refine kc_alloc _ ?_))); have xx0 : w1.frozen? ⟨w.heap.size + 1 + 1, 0, none⟩ = false := (by (with_reducible repeat (first | refine kf_drew ?_ | refine kf_drewN _ ?_ | (refine kf_new ?_ _; (focus first | rfl | (simp only [World.size_alloc, World.size_setCell, World.size_drew, size_drewN]; done))) | refine kf_set _ _ ?_ | (refine kf_below hb1 ?_ ?_; (focus simp only [World.size_alloc, World.size_setCell, World.size_drew, size_drewN]; omega)) | (refine kf_alloc _ ?_ ?_; (focus first | (simp only [World.size_alloc, World.size_setCell, World.size_drew, size_drewN]; omega) | (dsimp only; omega)))))); have xx1 : w1.frozen? ⟨w.heap.size + 1 + 1, 1, none⟩ = false := (by (with_reducible repeat (first | refine kf_drew ?_ | refine kf_drewN _ ?_ | (refine kf_new ?_ _; (focus first | rfl | (simp only [World.size_alloc, World.size_setCell, World.size_drew, size_drewN]; done))) | refine kf_set _ _ ?_ | (refine kf_below hb1 ?_ ?_; (focus simp only [World.size_alloc, World.size_setCell, World.size_drew, size_drewN]; omega)) | (refine kf_alloc _ ?_ ?_; (focus first | (simp only [World.size_alloc, World.size_setCell, World.size_drew, size_drewN]; omega) | (dsimp only; omega)))))); have hlt : w.heap.size + 1 + 1 < w1.heap.size := (by omega)))
        all_goals go_wp2_with fail
        all_goals exact bodyPost_ret (v := .agg #[.int .i64 (n / d * x + y), .int .i64 x]) (by simp [results, Try.results64, go_sem, rr0, rr1, hlt, Nat.ne_of_lt hlt]) rfl ⟨rfl, by (repeat (first | with_reducible rfl | with_reducible exact Below.refl _ _ | with_reducible exact gro_refl _ | with_reducible refine kc_drew ?_ | with_reducible refine kc_drewN _ ?_ | with_reducible refine kf_drew ?_ | with_reducible refine kf_drewN _ ?_ | with_reducible refine kc_below hb1 ?_ | ((with_reducible refine kc_new ?_ ?_); (focus (first | with_reducible rfl | (simp only [World.size_alloc, World.size_setCell, World.size_drew, size_drewN]; done))); (focus (first | rfl | (simp; done)))) | ((with_reducible refine kc_set0 ?_ ?_); (focus (first | rfl | (simp; done)))) | with_reducible refine ct_drew ?_ | with_reducible refine ct_drewN _ ?_ | with_reducible refine ct_below hb1 ?_ | ((with_reducible refine ct_new ?_ ?_); (focus (first | with_reducible rfl | (simp only [World.size_alloc, World.size_setCell, World.size_drew, size_drewN]; done))); (focus (first | rfl | (simp; done)))) | with_reducible refine ct_set _ _ ?_ | with_reducible refine ct_alloc _ ?_ | ((with_reducible refine kc_set ?_ ?_); (focus (first | (intro hx; injection hx; omega) | (simp; done)))) | with_reducible refine kc_alloc _ ?_ | ((with_reducible refine kf_new ?_ _); (focus (first | with_reducible rfl | (simp only [World.size_alloc, World.size_setCell, World.size_drew, size_drewN]; done)))) | with_reducible refine kf_set _ _ ?_ | ((with_reducible refine kf_below hb1 ?_ ?_); (focus (simp only [World.size_alloc, World.size_setCell, World.size_drew, size_drewN]; omega))) | ((with_reducible refine kf_alloc _ ?_ ?_); (focus (first | (simp only [World.size_alloc, World.size_setCell, World.size_drew, size_drewN]; omega) | (dsimp only; omega)))) | with_reducible refine bl_alloc ?_ _ | with_reducible refine bl_drew ?_ | with_reducible refine bl_drewN ?_ _ | ((with_reducible refine bl_set ?_ ?_ _); (focus (dsimp only; omega))) | with_reducible refine bl_call ?_ hb1 | with_reducible refine gro_alloc ?_ _ | with_reducible refine gro_drew ?_ | with_reducible refine gro_drewN ?_ _ | ((with_reducible refine gro_set ?_ ?_ _); (focus (first | omega | (dsimp only; omega)))) | with_reducible refine gro_call ?_ hk1))⟩
end Go.Proofs.Ytoenimkgagndnaa
