/- gear.trains: the iterator, for every loop body that writes one block of its own alone. -/
import Derived.Test.YtmigddempeecoaaClamp
import Derived.Test.YtmigddempeecoaaStillIn
import Derived.RangeFuncNested
import Derived.RangeFuncBound
import Derived.RangeFuncCalls
import Derived.RangeFuncLeaves
import Derived.Shelf.Abstract
import Derived.Shelf.RegionOpen
import Derived.OwnWalkIn
import Derived.TacticsInMore
import Derived.LoopNIn
import Derived.LoopIn
namespace Go.Proofs.Ytmigddempeecoaa
set_option linter.unusedVariables false
set_option linter.unusedSimpArgs false
open Go.RowKit Go.Shelf Go.Lib Go.Sort
attribute [local go_sem] Oper.semAt_some

/-- What a round keeps: all cells but those of block bb. -/
def KpB (bb : Nat) (W W' : World) : Prop := W.heap.size ≤ W'.heap.size ∧ ∀ k cs e fr, k ≠ bb → W.heap[k]? = some (.cells cs e fr) → W'.heap[k]? = W.heap[k]?
theorem kp_trans {bb : Nat} {A B C : World} (h : KpB bb A B) (k : KpB bb B C) : KpB bb A C :=
  ⟨Nat.le_trans h.1 k.1, fun i cs e fr hi hc => by
    have h1 := h.2 i cs e fr hi hc
    exact (k.2 i cs e fr hi (h1.trans hc)).trans h1⟩
theorem kp_put {bb : Nat} (W : World) (l : Nat) (o o' : Obj) (h : W.heap[l]? = some o) (hc : o.isCells = false) : KpB bb W (W.putObj l o') := by
  refine ⟨by simp [World.putObj], fun k cs e fr _ hk => World.putObj_heap_other ?_⟩
  rintro rfl
  rw [h] at hk
  cases hk
  cases hc
theorem kp_cell {bb : Nat} {W W' : World} (h : KpB bb W W') {a : Addr} {v : Value} (ha : a.block ≠ bb) (hv : W.cell? a = some v) : W'.cell? a = some v := by
  rw [← hv]
  refine World.cell?_of_block ?_
  unfold World.cell? at hv
  cases ho : W.heap[a.block]? with
  | none => simp [ho] at hv
  | some o =>
    cases o with
    | cells cs e fr => exact (h.2 _ cs e fr ha ho).trans ho
    | _ => simp [ho] at hv
theorem kp_frozen {bb : Nat} {W W' : World} (h : KpB bb W W') {a : Addr} {v : Value} (ha : a.block ≠ bb) (hv : W.cell? a = some v) : W'.frozen? a = W.frozen? a := by
  refine World.frozen?_of_block ?_
  unfold World.cell? at hv
  cases ho : W.heap[a.block]? with
  | none => simp [ho] at hv
  | some o =>
    cases o with
    | cells cs e fr => exact (h.2 _ cs e fr ha ho).trans ho
    | _ => simp [ho] at hv
theorem kp_holds {bb : Nat} {W W' : World} {g : Nat} {d : Array Side} (h : KpB bb W W') (hg : g ≠ bb) (hH : HoldsK Side.enc 5 W g 0 d) : HoldsK Side.enc 5 W' g 0 d := fun j hj =>
  ⟨kp_cell h hg (hH j hj).1, (kp_frozen h hg (hH j hj).1).trans (hH j hj).2⟩
theorem kp_box {bb : Nat} {W W' : World} {b : Nat} {x : Side} (h : KpB bb W W') (hg : b ≠ bb) (hx : box5 W b x) : box5 W' b x := box5_map hx fun _ _ hu => kp_cell h hg hu

/-- What the iterator has captured. -/
structure Cap (W : World) (bl bs bt : Nat) (wl wh pl ph : Int) (st : Nat) (tn td : Int) : Prop where
  l0 : W.cell? ⟨bl, 0, none⟩ = some (.int .i64 wl)
  l1 : W.cell? ⟨bl, 1, none⟩ = some (.int .i64 wh)
  l2 : W.cell? ⟨bl, 2, none⟩ = some (.int .i64 pl)
  l3 : W.cell? ⟨bl, 3, none⟩ = some (.int .i64 ph)
  s : W.cell? ⟨bs, 0, none⟩ = some (.int .i64 st)
  t : fAt W bt tn td
theorem Cap.map {W W1 : World} {bl bs bt : Nat} {wl wh pl ph : Int} {st : Nat} {tn td : Int} (h : Cap W bl bs bt wl wh pl ph st tn td)
    (hk : ∀ b i v, (b = bl ∨ b = bs ∨ b = bt) → W.cell? ⟨b, i, none⟩ = some v → W1.cell? ⟨b, i, none⟩ = some v) : Cap W1 bl bs bt wl wh pl ph st tn td :=
  ⟨hk _ _ _ (.inl rfl) h.l0, hk _ _ _ (.inl rfl) h.l1, hk _ _ _ (.inl rfl) h.l2, hk _ _ _ (.inl rfl) h.l3, hk _ _ _ (.inr (.inl rfl)) h.s, hk _ _ _ (.inr (.inr rfl)) h.t.1, hk _ _ _ (.inr (.inr rfl)) h.t.2⟩

/-- Between two rounds: the wheels' sides, the pinions' sides, what was captured. -/
structure It (bb bl bs bt bw gw cw gp : Nat) (wl wh pl ph : Int) (st : Nat) (tn td : Int) (ws ps : List Side) (W : World) : Prop where
  cap : Cap W bl bs bt wl wh pl ph st tn td
  nl : bl ≠ bb
  ns : bs ≠ bb
  nt : bt ≠ bb
  nw : bw ≠ bb
  ng : gw ≠ bb
  np : gp ≠ bb
  gl : gw < W.heap.size
  pl : gp < W.heap.size
  box : W.cell? ⟨bw, 0, none⟩ = some (.slice (some ⟨gw, 0, none⟩) ws.length cw)
  row : HoldsK Side.enc 5 W gw 0 ws.toArray
  prow : HoldsK Side.enc 5 W gp 0 ps.toArray
section
variable {bb bl bs bt bw gw cw gp : Nat} {wl wh pl ph : Int} {st : Nat} {tn td : Int} {ws ps : List Side} {W W1 : World}
theorem It.kp (h : It bb bl bs bt bw gw cw gp wl wh pl ph st tn td ws ps W) (k : KpB bb W W1) : It bb bl bs bt bw gw cw gp wl wh pl ph st tn td ws ps W1 :=
  ⟨h.cap.map fun b i v hb hv => kp_cell k (by rcases hb with rfl | rfl | rfl <;> first | exact h.nl | exact h.ns | exact h.nt) hv, h.nl, h.ns, h.nt, h.nw, h.ng, h.np, Nat.lt_of_lt_of_le h.gl k.1, Nat.lt_of_lt_of_le h.pl k.1, kp_cell k h.nw h.box, kp_holds k h.ng h.row, kp_holds k h.np h.prow⟩
theorem It.below (h : It bb bl bs bt bw gw cw gp wl wh pl ph st tn td ws ps W) (k : Below W.heap.size W W1) : It bb bl bs bt bw gw cw gp wl wh pl ph st tn td ws ps W1 :=
  ⟨h.cap.map fun b i v _ hv => kc_below k hv, h.nl, h.ns, h.nt, h.nw, h.ng, h.np, Nat.lt_of_lt_of_le h.gl k.size, Nat.lt_of_lt_of_le h.pl k.size, kc_below k h.box, holdsK_below k h.gl h.row, holdsK_below k h.pl h.prow⟩
end

theorem search_any (bw bp bt g cap : Nat) (ws : List Side) (x : Side) (tn td : Int) (W : World) (h : Seen W bw bp bt g cap ws.toArray x tn td) (hg : g < W.heap.size) (hr : Rows ws) (hx : 1 ≤ x.p) (hx' : x.p ≤ 8000000)
    (ht : -4611686018427387904 ≤ tn) (ht' : tn ≤ 4611686018427387904) (hu : 1 ≤ td) (hu' : td ≤ 4611686018427387904) :
    Calls Try.prog 106 #[.int .i64 ws.length, .func (.func 107) #[] #[.pointer (some ⟨bw, 0, none⟩), .pointer (some ⟨bp, 0, none⟩), .pointer (some ⟨bt, 0, none⟩)]] W fun e w' =>
      e = .returned (.int .i64 (aboveN ws x tn td)) ∧ Gro W w' := by
  have eg : ∀ args w, (callFunc 107 args).run Try.prog w = .ok (.enter 107 args) w := enters_of Try.func107 (by kernel_rfl) rfl
  have hl := hr.len
  have hcon := Any.sort_Search Try.searchS 107 #[.pointer (some ⟨bw, 0, none⟩), .pointer (some ⟨bp, 0, none⟩), .pointer (some ⟨bt, 0, none⟩)] ws.length (aboveB ws.toArray x.p tn td) W eg (by omega)
    (fun m os i hi => by
      have hs := h.below hg (below_grow W m os)
      exact closure_any bw bp bt g cap ws.toArray x tn td _ hs i (by simpa using hi) (by simp; omega) (fun j hj => by
        have hj' : j < ws.length := by simpa using hj
        have e : ws.toArray[j]! = ws[j] := by rw [getElem!_pos _ j hj]; simp
        rw [e]
        exact hr.p _ (List.getElem_mem hj')) hx hx' ht ht' hu hu')
    (hr.above hx hu)
  change Calls Try.prog 106 _ _ _ at hcon
  exact hcon

theorem abide {J : List Tr → World → Prop} {B : Nat} (hJ : AbidesFrom B J) {pre : List Tr} {A C : World} (h : J pre A) (hb : Below A.heap.size A C) : J pre C :=
  hJ pre A C none h ⟨hb.os, hb.tape, hb.output, hb.size, fun k hk _ => hb.block k hk⟩ (fun r e => by cases e)

set_option maxHeartbeats 4000000 in
set_option maxRecDepth 100000 in
theorem trains_stops (n : Nat) (hn : 3 ≤ n) (bb bl bs bt : Nat) (wl wh pl ph : Int) (st : Nat) (tn td : Int) (w : World) (hc : Cap w bl bs bt wl wh pl ph st tn td)
    (hbb : bb < w.heap.size) (nl : bl ≠ bb) (ns : bs ≠ bb) (nt : bt ≠ bb)
    (w1 : 1 ≤ wl) (w2 : wl ≤ wh) (w3 : wh ≤ 200) (w4 : wh - wl < 64) (p1 : 1 ≤ pl) (p2 : pl ≤ ph) (p3 : ph ≤ 200) (p4 : ph - pl < 64) (hst : st ≤ 3) (hst1 : 1 ≤ st)
    (ht : -4611686018427387904 ≤ tn) (ht' : tn ≤ 4611686018427387904) (hu : 1 ≤ td) (hu' : td ≤ 4611686018427387904) :
    SeqStopsK Fence.wide n Try.prog 104 #[.pointer (some ⟨bl, 0, none⟩), .pointer (some ⟨bs, 0, none⟩), .pointer (some ⟨bt, 0, none⟩)] (fun t : Tr => #[(clampT t).val]) (KpB bb)
      (fun xs => xs = trainsL st (sidesL wl wh st false) (sidesL pl ph st true) tn td) (fun pre => pre <+: trainsL st (sidesL wl wh st false) (sidesL pl ph st true) tn td)
      (trainsL st (sidesL wl wh st false) (sidesL pl ph st true) tn td).length w := fun l J Jx W hW hJ hJx hY h0 => by
  have hcW : Cap W bl bs bt wl wh pl ph st tn td := hc.map fun b i v _ hv => kc_below hW hv
  have hbW : bb < W.heap.size := Nat.lt_of_lt_of_le hbb hW.size
  have HC := Lib.hid (clamp_mem w1 w2 w3 p1 p2 p3 hst hst1 tn td)
  have hrw := rows_sides false w1 w2 w3 w4 hst
  have hrp := rows_sides true p1 p2 p3 p4 hst
  have hplen := hrp.len
  have c1 := sides_any wl wh st false W w1 w2 w3 w4 hst
  have c2 := fun W => sides_any pl ph st true W p1 p2 p3 p4 hst
  unfold SidesPost at c1 c2
  generalize sidesL wl wh st false = ws at *
  generalize sidesL pl ph st true = ps at *
  have C1 := Lib.hid c1
  have C2 := Lib.hid c2
  obtain ⟨l0, l1, l2, l3, s0, t0, t1⟩ := hcW
  have HY := Lib.hid hY
  have HJ := Lib.hid hJ
  clear c1 c2 hY hJ
  refine callsIn_of_wp Try.func104 rfl trivial ?_ rfl
  simp only [Try.ntmps104, List.size_toArray, List.length_cons, List.length_nil, Nat.reduceAdd, Nat.reduceSub, Array.replicate_succ, Array.replicate_zero, List.push_toArray, List.append_toArray, List.nil_append, List.cons_append]
  gi_wp2_with fail
  refine ⟨trivial, fun h => (by cases h), ?_⟩
  refine (callsIn_wide.2 C1.out).mono ?_
  rintro e W1 ⟨v, rfl, gw, cw, rfl, hg1, hg2, hHw, hb1⟩
  have hz1 := hb1.size
  have J1 : Hid (J [] W1) := abide HJ.out h0 hb1
  replace l2 := kc_below hb1 l2
  replace l3 := kc_below hb1 l3
  replace s0 := kc_below hb1 s0
  replace t0 := kc_below hb1 t0
  replace t1 := kc_below hb1 t1
  replace l0 := kc_below hb1 l0
  replace l1 := kc_below hb1 l1
  have gl1 : bl < W1.heap.size := World.block_lt_of_cell? _ _ l0
  have gs1 : bs < W1.heap.size := World.block_lt_of_cell? _ _ s0
  have gt1 : bt < W1.heap.size := World.block_lt_of_cell? _ _ t0
  clear hb1 h0
  have HW := Lib.hid hHw
  clear hHw
  gi_wp2_with fail
  refine ⟨trivial, fun h => (by cases h), ?_⟩
  refine (callsIn_wide.2 (C2.out _)).mono ?_
  rintro e W2 ⟨v, rfl, gp, cp, rfl, hg3, hg4, hHp, hb2⟩
  have hz2 := hb2.size
  rw [World.size_alloc] at hg3 hz2
  have IT : Hid (It bb bl bs bt W1.heap.size gw cw gp wl wh pl ph st tn td ws ps W2) :=
    ⟨⟨kc_below hb2 (kc_alloc _ l0), kc_below hb2 (kc_alloc _ l1), kc_below hb2 (kc_alloc _ l2), kc_below hb2 (kc_alloc _ l3), kc_below hb2 (kc_alloc _ s0), kc_below hb2 (kc_alloc _ t0), kc_below hb2 (kc_alloc _ t1)⟩,
      nl, ns, nt, by omega, by omega, by omega, by omega, by omega, kc_below hb2 (kc_new rfl rfl), holdsK_below hb2 (by rw [World.size_alloc]; omega) (holdsK_below (Below.refl _ _ |>.alloc (Nat.le_refl _) _) hg2 HW.out), hHp⟩
  have J2 : Hid (J [] W2) := abide HJ.out (abide HJ.out J1.out (Below.refl _ _ |>.alloc (Nat.le_refl _) _)) hb2
  have hwz : W.heap.size ≤ W2.heap.size := by omega
  clear hb2 hHp HW J1 l0 l1 l2 l3 s0 t0 t1 C1 C2 hz2
  gi_wp2_with fail
  gi_loopw [23] (fun s wr => ∃ j : Nat, j ≤ ps.length ∧ s = .int .i64 j ∧ W.heap.size ≤ wr.heap.size ∧ Hid (It bb bl bs bt W1.heap.size gw cw gp wl wh pl ph st tn td ws ps wr) ∧ Hid (J (trainsTo st ws ps tn td j) wr)) (fun s _ => ps.length - (intOf s).toNat)
  case atStart => exact ⟨0, Nat.zero_le _, rfl, hwz, IT, by show J _ _; simpa [trainsTo] using J2.out⟩
  case round =>
    obtain ⟨j, hj, rfl, hwr, hI, hJr⟩ := hrel
    by_cases hjl : j < ps.length
    · have hxm := hrp.p ps[j] (List.getElem_mem hjl)
      have hc5 := (cells5 hI.out.prow (show j < ps.toArray.size by simpa using hjl)).1
      have ex : ps.toArray[j]! = ps[j] := by rw [getElem!_pos _ j (by simpa using hjl)]; simp
      rw [ex] at hc5
      have HS := Lib.hid (trainsTo_succ st ws ps tn td j hjl)
      have HP := fun k hk => Lib.hid (trainsTo_pre st ws ps tn td j hjl k hk)
      generalize ps[j] = x at *
      obtain ⟨c0, c1, c2, c3, c4⟩ := hc5
      have q0 := hI.out.cap.s
      have q1 := hI.out.box
      have hgl := hI.out.gl
      have k1 : bs < wr.heap.size := World.block_lt_of_cell? _ _ q0
      have k2 : W1.heap.size < wr.heap.size := World.block_lt_of_cell? _ _ q1
      have SE : Hid (Seen (wr.alloc (.cells #[.int .i64 x.a, .int .i64 x.b, .int .i64 x.c, .int .i64 x.p, .int .i64 x.s] 102)) W1.heap.size wr.heap.size bt gw cw ws.toArray x tn td) :=
        ⟨by simpa using kc_alloc _ q1, box5_new _ _ _, ⟨kc_alloc _ hI.out.cap.t.1, kc_alloc _ hI.out.cap.t.2⟩, holdsK_below (Below.refl _ _ |>.alloc (Nat.le_refl _) _) hgl hI.out.row⟩
      have IB : Hid (It bb bl bs bt W1.heap.size gw cw gp wl wh pl ph st tn td ws ps (wr.alloc (.cells #[.int .i64 x.a, .int .i64 x.b, .int .i64 x.c, .int .i64 x.p, .int .i64 x.s] 102))) := hI.out.below (Below.refl _ _ |>.alloc (Nat.le_refl _) _)
      have JB : Hid (J (trainsTo st ws ps tn td j) (wr.alloc (.cells #[.int .i64 x.a, .int .i64 x.b, .int .i64 x.c, .int .i64 x.p, .int .i64 x.s] 102))) := abide HJ.out hJr.out (Below.refl _ _ |>.alloc (Nat.le_refl _) _)
      have BX : Hid (box5 (wr.alloc (.cells #[.int .i64 x.a, .int .i64 x.b, .int .i64 x.c, .int .i64 x.p, .int .i64 x.s] 102)) wr.heap.size x) := box5_new _ _ _
      have hnb : wr.heap.size ≠ bb := by omega
      clear ex hI hJr
      gi_wp2_with fail
      refine ⟨trivial, fun h => (by cases h), ?_⟩
      refine (callsIn_wide.2 (search_any _ _ _ _ _ ws x tn td _ SE.out (by rw [World.size_alloc]; omega) hrw hxm.1 hxm.2 ht ht' hu hu')).mono ?_
      rintro e W3 ⟨rfl, hk3⟩
      have hb3 := hk3.below
      have hz3 := hb3.size
      rw [World.size_alloc] at hz3
      have I3 : Hid (It bb bl bs bt W1.heap.size gw cw gp wl wh pl ph st tn td ws ps W3) := IB.out.below hb3
      have J3 : Hid (J (trainsTo st ws ps tn td j) W3) := abide HJ.out JB.out hb3
      have B3 : Hid (box5 W3 wr.heap.size x) := box5_map BX.out fun _ _ hu => kc_below hb3 hu
      have hle := aboveN_le ws x tn td
      have hlen := hrw.len
      have wl0 : Hid (winLo ws x tn td = aboveN ws x tn td - 1) := rfl
      have wh0 : Hid (winHi ws x tn td = min (aboveN ws x tn td + 1) ws.length) := rfl
      clear SE IB JB BX hb3 hk3 c0 c1 c2 c3 c4 q0 q1
      generalize aboveN ws x tn td = ab at *
      generalize wr.heap.size = bp at *
      have HWn : Hid (win st ws tn td x = winTo st ws x tn td (winHi ws x tn td - winLo ws x tn td)) := rfl
      have HWs := fun k => Lib.hid (winTo_succ st ws x tn td k)
      generalize winLo ws x tn td = L at *
      generalize winHi ws x tn td = H at *
      obtain ⟨hL, hH⟩ : (L ≤ ab ∧ ab ≤ L + 1 ∧ (ab = 0 → L = 0) ∧ (0 < ab → L + 1 = ab)) ∧ (H ≤ ab + 1 ∧ H ≤ ws.length ∧ (H = ab + 1 ∨ H = ws.length)) := by
        have := wl0.out
        have := wh0.out
        omega
      clear wl0 wh0
      gi_wp2_with fail
      gi_loopw [9] (fun s wr => ∃ k : Nat, k ≤ H - L ∧ s = .int .i64 ((L + k : Nat) : Int) ∧ W.heap.size ≤ wr.heap.size ∧ Hid (It bb bl bs bt W1.heap.size gw cw gp wl wh pl ph st tn td ws ps wr) ∧ Hid (J (trainsTo st ws ps tn td j ++ winTo st ws x tn td k) wr) ∧ Hid (box5 wr bp x)) (fun s _ => ws.length + 1 - (intOf s).toNat)
      case atStart =>
        refine ⟨0, Nat.zero_le _, ?_, by omega, I3, ?_, B3⟩
        · have : max ((ab : Int) - 1) 0 = ((L + 0 : Nat) : Int) := by omega
          rw [this]
        · show J _ _
          simpa [winTo] using J3.out
      case round =>
        clear I3 J3 B3
        obtain ⟨k, hk, rfl, hwr2, hI, hJk, hB⟩ := hrel
        by_cases hkl : k < H - L
        · have q0 := hI.out.cap.s
          have q1 := hI.out.box
          have hi : L + k < ws.length := by omega
          obtain ⟨b0, b1, b2, b3, b4⟩ := hB.out
          obtain ⟨⟨c0, c1, c2, c3, c4⟩, _⟩ := cells5 hI.out.row (show L + k < ws.toArray.size by simpa using hi)
          generalize hy0 : ws.toArray[L + k]! = y at *
          have hW2 := HWs k
          have hy0' := Lib.hid hy0
          clear hy0
          have hpl := (HP (k + 1) (by omega)).out
          have hsucc : trainsTo st ws ps tn td j ++ winTo st ws x tn td (k + 1) = (trainsTo st ws ps tn td j ++ winTo st ws x tn td k) ++ [⟨(st : Int), y, x⟩] := by
            rw [hW2.out, hy0'.out, List.append_assoc]
          rw [hsucc] at hpl
          have hlt : (trainsTo st ws ps tn td j ++ winTo st ws x tn td k).length < (trainsL st ws ps tn td).length := by
            have := hpl.length_le
            simp only [List.length_append, List.length_singleton] at this ⊢
            omega
          have hcl := HC.out _ (hpl.subset (List.mem_append_right _ (List.mem_singleton.2 rfl)))
          have SU := Lib.hid hsucc
          have PL := Lib.hid hpl
          obtain ⟨fn, tmps, assign, body, hy, hR⟩ := HY.out (trainsTo st ws ps tn td j ++ winTo st ws x tn td k) ⟨(st : Int), y, x⟩ wr.drew (abide HJ.out hJk.out ((Below.refl _ _).drew)) hlt
          (try dsimp only at hy)
          rw [hcl] at hy
          clear hcl
          dsimp only [Tr.val, Tr.cells] at hy
          have hg0 : (0 : Int) ≤ (L : Int) + (k : Int) := by omega
          have hg1 : (L : Int) + (k : Int) < (ws.length : Int) := by omega
          have hg2 : ((L : Int) + (k : Int)).toNat = L + k := by omega
          have RR := Lib.hid hR
          clear hR hsucc hpl hlt hW2
          gi_wp2_with fail
          refine still_tail_in (open_wide n) 8 (by kernel_rfl) (by kernel_rfl) (by kernel_rfl) ?_
          simp only [List.take_succ_cons, List.take_zero, List.drop_succ_cons, List.drop_zero]
          iterate 8 still_step
          refine wpStill_nil ?_
          gi_wp2_with fail
          refine ⟨fun h => (by cases h), ?_⟩
          refine RR.out.mono ?_
          have hz4 : wr.drew.heap.size = wr.heap.size := rfl
          have hId : Hid (It bb bl bs bt W1.heap.size gw cw gp wl wh pl ph st tn td ws ps wr.drew) := hI.out.below ((Below.refl _ _).drew)
          have hBd : Hid (box5 wr.drew bp x) := hB.out
          clear RR hI hB b0 b1 b2 b3 b4 c0 c1 c2 c3 c4 q0 q1 hy
          rintro e W4 (⟨rfl, hJ4, hk4⟩ | ⟨rfl, hJ4⟩)
          · have I4 : Hid (It bb bl bs bt W1.heap.size gw cw gp wl wh pl ph st tn td ws ps W4) := hId.out.kp hk4
            have B4 : Hid (box5 W4 bp x) := kp_box hk4 hnb hBd.out
            have J4 : Hid (J (trainsTo st ws ps tn td j ++ winTo st ws x tn td (k + 1)) W4) := by
              show J _ _
              rw [SU.out]; exact hJ4
            have hwz4 : W.heap.size ≤ W4.heap.size := by have := hk4.1; omega
            clear hk4 hJ4 hId hBd SU PL hz4
            gi_wp2_with fail
            exact ⟨⟨k + 1, by omega, by go_num, hwz4, I4, J4, B4⟩, by simp [intOf]; omega⟩
          · have E4 : Hid (∃ pre, pre <+: trainsL st ws ps tn td ∧ Jx pre W4) := ⟨_, PL.out, hJ4⟩
            clear hJ4 hId hBd SU PL
            gi_wp2_with fail
            refine bodyPost_ret (results_none rfl _ _ _) rfl ?_
            exact ⟨⟨_, rfl⟩, .inr E4.out⟩
        · have hke : k = H - L := by omega
          have q1 := hI.out.box
          have J5 : Hid (J (trainsTo st ws ps tn td (j + 1)) wr) := by
            show J _ _
            rw [HS.out, HWn.out, ← hke]
            exact hJk.out
          clear hJk hB HWs HP HS HWn
          gi_wp2_with fail
          exact ⟨⟨j + 1, by omega, by go_num, hwr2, hI, J5⟩, by simp [intOf]; omega⟩
    · have hje : j = ps.length := by omega
      subst hje
      have hF : Hid (J (trainsL st ws ps tn td) wr) := by
        have := hJr.out
        rwa [trainsTo_end] at this
      gi_wp2_with fail
      go_end0
      exact ⟨⟨_, rfl⟩, .inl ⟨_, rfl, hF.out⟩⟩
end Go.Proofs.Ytmigddempeecoaa
