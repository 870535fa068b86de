/-
  AscTick of the program answers at every argument as the model's AscTick, writes nothing into its argument, and its answer is memory of its own (Rows.FnExactAscTickSaid). No condition. (Written by wip/tools/genlawmem.py.)
-/
import Derived.Test.YthdjjgbjemaabaaTick
import Derived.Test.YthdjjgbjemaabaaClAscTick
import Derived.Test.YthdjjgbjemaabaaMkAscEnd
import Derived.Test.YthdjjgbjemaabaaMkFrmPacket
import Derived.Test.YthdjjgbjemaabaaAppI
import Derived.Test.YthdjjgbjemaabaaRow
import Derived.ChangeSame
import Derived.Deep.RegionHeld3
namespace Go.Proofs.Ythdjjgbjemaabaa
open Go.ChangeShapes Go.WideShapes Go.ChangeAt Go.RowKit
set_option linter.unusedVariables false
set_option linter.unusedSimpArgs false

theorem scascTick {x : World} {b c : Nat} {p0 p1 p2 p3 p4 p5 p6 p7 p8 p9 p10 p11 p12 p13 q0 q1 q2 q3 q4 q5 q6 q7 q8 q9 q10 q11 q12 q13 : Value} (h : Blk x b [p0, p1, p2, p3, p4, p5, p6, p7, p8, p9, p10, p11, p12, p13]) (k : Blk x c [q0, q1, q2, q3, q4, q5, q6, q7, q8, q9, q10, q11, q12, q13]) :
    x.cell? ⟨b, 0, none⟩ = some p0 ∧ x.cell? ⟨b, 1, none⟩ = some p1 ∧ x.cell? ⟨b, 2, none⟩ = some p2 ∧ x.cell? ⟨b, 3, none⟩ = some p3 ∧ x.cell? ⟨b, 4, none⟩ = some p4 ∧ x.cell? ⟨b, 5, none⟩ = some p5 ∧ x.cell? ⟨b, 6, none⟩ = some p6 ∧ x.cell? ⟨b, 7, none⟩ = some p7 ∧ x.cell? ⟨b, 8, none⟩ = some p8 ∧ x.cell? ⟨b, 9, none⟩ = some p9 ∧ x.cell? ⟨b, 10, none⟩ = some p10 ∧ x.cell? ⟨b, 11, none⟩ = some p11 ∧ x.cell? ⟨b, 12, none⟩ = some p12 ∧ x.cell? ⟨b, 13, none⟩ = some p13 ∧ x.cell? ⟨c, 0, none⟩ = some q0 ∧ x.cell? ⟨c, 1, none⟩ = some q1 ∧ x.cell? ⟨c, 2, none⟩ = some q2 ∧ x.cell? ⟨c, 3, none⟩ = some q3 ∧ x.cell? ⟨c, 4, none⟩ = some q4 ∧ x.cell? ⟨c, 5, none⟩ = some q5 ∧ x.cell? ⟨c, 6, none⟩ = some q6 ∧ x.cell? ⟨c, 7, none⟩ = some q7 ∧ x.cell? ⟨c, 8, none⟩ = some q8 ∧ x.cell? ⟨c, 9, none⟩ = some q9 ∧ x.cell? ⟨c, 10, none⟩ = some q10 ∧ x.cell? ⟨c, 11, none⟩ = some q11 ∧ x.cell? ⟨c, 12, none⟩ = some q12 ∧ x.cell? ⟨c, 13, none⟩ = some q13 :=
  ⟨h.at rfl, h.at rfl, h.at rfl, h.at rfl, h.at rfl, h.at rfl, h.at rfl, h.at rfl, h.at rfl, h.at rfl, h.at rfl, h.at rfl, h.at rfl, h.at rfl, k.at rfl, k.at rfl, k.at rfl, k.at rfl, k.at rfl, k.at rfl, k.at rfl, k.at rfl, k.at rfl, k.at rfl, k.at rfl, k.at rfl, k.at rfl, k.at rfl⟩
theorem smz_FrmGap (xs : List DFrmGap) : szL smFrmGap xs ≤ 64 * (xs.length) := by
  induction xs with
  | nil => simp [szL]
  | cons x xs ih =>
    have h1 : smFrmGap x ≤ 64 * (1) := by
      simp only [smFrmGap]; omega
    simp only [szL, List.length_cons] at ih ⊢; omega
theorem smz_FrmChunk (xs : List DFrmChunk) : szL smFrmChunk xs ≤ 64 * (zL zFrmChunk xs) := by
  induction xs with
  | nil => simp [szL]
  | cons x xs ih =>
    have h1 : smFrmChunk x ≤ 64 * (1 + zFrmChunk x) := by
      simp only [smFrmChunk, zFrmChunk]; have := smz_FrmGap (x.xGaps); omega
    simp only [zL, szL, List.length_cons] at ih ⊢; omega
theorem smz_FrmPacket (xs : List DFrmPacket) : szL smFrmPacket xs ≤ 64 * (zL zFrmPacket xs) := by
  induction xs with
  | nil => simp [szL]
  | cons x xs ih =>
    have h1 : smFrmPacket x ≤ 64 * (1 + zFrmPacket x) := by
      simp only [smFrmPacket, zFrmPacket]; have := smz_FrmChunk (x.xChunks); omega
    simp only [zL, szL, List.length_cons] at ih ⊢; omega
set_option maxRecDepth 100000 in
set_option maxHeartbeats 8000000 in
theorem lawAscTick (cs : List Value) (x : DAscEnd) (w : World) (h : FAscEnd w cs x) : Calls Try.prog 10 #[.agg cs.toArray] w fun e w' => e = .returned (.bool true) ∧ Below w.heap.size w w' := by
  have HF := Lib.hid h
  obtain ⟨v11, rfl, h11⟩ := h
  have K := Lib.hid (Blk.new (w := w) (b := w.heap.size) #[.int .i64 x.xMe, .int .i64 x.xPeer, .int .i64 x.xSecret, .int .i64 x.xWish, .int .i64 x.xLast, .int .i64 x.xState, .int .i64 x.xTag, .int .i64 x.xPeerTag, .int .i64 x.xTsn, .int .i64 x.xPeerTsn, .int .i64 x.xStreams, v11, .int .i64 x.xTries, .int .i64 x.xLeft] 65 rfl)
  have HB := Lib.hid ((Below.refl w.heap.size w).alloc (Nat.le_refl _) (.cells #[.int .i64 x.xMe, .int .i64 x.xPeer, .int .i64 x.xSecret, .int .i64 x.xWish, .int .i64 x.xLast, .int .i64 x.xState, .int .i64 x.xTag, .int .i64 x.xPeerTag, .int .i64 x.xTsn, .int .i64 x.xPeerTsn, .int .i64 x.xStreams, v11, .int .i64 x.xTries, .int .i64 x.xLeft] 65))
  clear h11
  go_enter Try.func10, Try.ntmps10
  go_wp2_with fail
  refine (szAscEnd_z _ x _ _ (HF.out.below HB.out) ⟨by omega, by omega⟩).mono ?_
  rintro e w1 ⟨rfl, b1⟩
  replace K := Lib.hid (K.out.keep b1)
  replace HB := Lib.hid (HB.out.trans (b1.mono HB.out.size))
  clear b1
  have hr := szR_cases 1048576 (zAscEnd x) (by omega)
  generalize szR 1048576 (zAscEnd x) = r at *
  rcases hr with ⟨rfl, _⟩ | ⟨hr, _, ht⟩
  · go_wp2
    go_ret
    exact ⟨rfl, HB.out⟩
  have Hn := Lib.hid (show zAscEnd x ≤ 1048576 by omega)
  clear ht
  obtain ⟨bd0, bd1⟩ := ascTick_bd x Hn.out
  have BD0 := Lib.hid bd0
  have BM0 := Lib.hid (show saAscEnd (tickE x) ≤ 67108864 by simp only [saAscEnd, zAscEnd] at bd0 ⊢; omega)
  clear bd0
  have BD1 := Lib.hid bd1
  have BM1 := Lib.hid (show szL smFrmPacket (tickP x) ≤ 67108864 by have := smz_FrmPacket (tickP x); omega)
  clear bd1
  have BX := Lib.hid (show saAscEnd x ≤ 67108864 by have hn := Hn.out; simp only [saAscEnd, zAscEnd] at hn ⊢; omega)
  have pc0 := K.out.at (i := 0) rfl
  have pc1 := K.out.at (i := 1) rfl
  have pc2 := K.out.at (i := 2) rfl
  have pc3 := K.out.at (i := 3) rfl
  have pc4 := K.out.at (i := 4) rfl
  have pc5 := K.out.at (i := 5) rfl
  have pc6 := K.out.at (i := 6) rfl
  have pc7 := K.out.at (i := 7) rfl
  have pc8 := K.out.at (i := 8) rfl
  have pc9 := K.out.at (i := 9) rfl
  have pc10 := K.out.at (i := 10) rfl
  have pc11 := K.out.at (i := 11) rfl
  have pc12 := K.out.at (i := 12) rfl
  have pc13 := K.out.at (i := 13) rfl
  go_wp2_with fail
  refine (toAscEnd_n _ x _ (HF.out.below HB.out) Hn.out).mono ?_
  rintro e w2 ⟨csw2, fw2, rfl, ow2, nw2, bw2⟩
  replace K := Lib.hid (K.out.keep bw2)
  replace HB := Lib.hid (HB.out.trans (bw2.mono HB.out.size))
  clear pc0 pc1 pc2 pc3 pc4 pc5 pc6 pc7 pc8 pc9 pc10 pc11 pc12 pc13
  have O2 := Lib.hid ow2.rd
  have Sw2 := Lib.hid bw2.size
  clear ow2 nw2 bw2
  have Ww2 := Lib.hid K.out.lt
  go_wp2_with fail
  refine (specAscTick_n _ x _ O2.out Hn.out).mono ?_
  rintro e w3 ⟨Wv0, Wv1, Wf0, Wf1, rfl, Wo0, Wo1, Wn, bw3⟩
  have Sw3 := Lib.hid bw3.size
  replace K := Lib.hid (K.out.keep bw3)
  replace HB := Lib.hid (HB.out.trans (bw3.mono HB.out.size))
  clear bw3
  have WN := Lib.hid Wn
  clear Wn
  have W0 := Lib.hid Wo0
  obtain ⟨Wu0_11, Wg0_11, rfl, Wp0_11, rfl⟩ := Wo0
  obtain ⟨W0A11, W0c11, rfl⟩ :=  Wp0_11.rd.slice
  clear Wp0_11
  have W1 := Lib.hid Wo1
  clear Wo1
  have WB0 := Lib.hid (Blk.new (w := w3) (b := w3.heap.size) #[.int .i64 (tickE x).xMe, .int .i64 (tickE x).xPeer, .int .i64 (tickE x).xSecret, .int .i64 (tickE x).xWish, .int .i64 (tickE x).xLast, .int .i64 (tickE x).xState, .int .i64 (tickE x).xTag, .int .i64 (tickE x).xPeerTag, .int .i64 (tickE x).xTsn, .int .i64 (tickE x).xPeerTsn, .int .i64 (tickE x).xStreams, .slice W0A11 (tickE x).xCookie.length W0c11, .int .i64 (tickE x).xTries, .int .i64 (tickE x).xLeft] 67 rfl)
  have bx := (Below.refl w3.heap.size w3).alloc (Nat.le_refl _) (.cells #[.int .i64 (tickE x).xMe, .int .i64 (tickE x).xPeer, .int .i64 (tickE x).xSecret, .int .i64 (tickE x).xWish, .int .i64 (tickE x).xLast, .int .i64 (tickE x).xState, .int .i64 (tickE x).xTag, .int .i64 (tickE x).xPeerTag, .int .i64 (tickE x).xTsn, .int .i64 (tickE x).xPeerTsn, .int .i64 (tickE x).xStreams, .slice W0A11 (tickE x).xCookie.length W0c11, .int .i64 (tickE x).xTries, .int .i64 (tickE x).xLeft] 67)
  replace K := Lib.hid (K.out.keep bx)
  replace W0 := Lib.hid (EAscEnd.framed _ _ _ _ _ W0.out (fun b hb => bx.block b (EAscEnd.inside _ _ _ _ W0.out b hb)))
  replace W1 := Lib.hid (W1.out.keep (fun b hb => bx.block b (W1.out.inside b hb)))
  replace HB := Lib.hid (HB.out.trans (bx.mono HB.out.size))
  clear bx
  have SW0 := Lib.hid (show w3.heap.size + 1 = (World.alloc w3 (.cells #[.int .i64 (tickE x).xMe, .int .i64 (tickE x).xPeer, .int .i64 (tickE x).xSecret, .int .i64 (tickE x).xWish, .int .i64 (tickE x).xLast, .int .i64 (tickE x).xState, .int .i64 (tickE x).xTag, .int .i64 (tickE x).xPeerTag, .int .i64 (tickE x).xTsn, .int .i64 (tickE x).xPeerTsn, .int .i64 (tickE x).xStreams, .slice W0A11 (tickE x).xCookie.length W0c11, .int .i64 (tickE x).xTries, .int .i64 (tickE x).xLeft] 67)).heap.size by simp)
  clear O2
  as_aux_lemma =>
    have pc0 := K.out.at (i := 0) rfl
    have pc1 := K.out.at (i := 1) rfl
    have pc2 := K.out.at (i := 2) rfl
    have pc3 := K.out.at (i := 3) rfl
    have pc4 := K.out.at (i := 4) rfl
    have pc5 := K.out.at (i := 5) rfl
    have pc6 := K.out.at (i := 6) rfl
    have pc7 := K.out.at (i := 7) rfl
    have pc8 := K.out.at (i := 8) rfl
    have pc9 := K.out.at (i := 9) rfl
    have pc10 := K.out.at (i := 10) rfl
    have pc11 := K.out.at (i := 11) rfl
    have pc12 := K.out.at (i := 12) rfl
    have pc13 := K.out.at (i := 13) rfl
    go_wp2_with fail
    refine (toAscEnd_n _ x _ (HF.out.below HB.out) Hn.out).mono ?_
    rintro e w4 ⟨csw4, fw4, rfl, ow4, nw4, bw4⟩
    replace K := Lib.hid (K.out.keep bw4)
    replace W0 := Lib.hid (EAscEnd.framed _ _ _ _ _ W0.out (fun b hb => bw4.block b (EAscEnd.inside _ _ _ _ W0.out b hb)))
    replace W1 := Lib.hid (W1.out.keep (fun b hb => bw4.block b (W1.out.inside b hb)))
    replace WB0 := Lib.hid (WB0.out.keep bw4)
    replace HB := Lib.hid (HB.out.trans (bw4.mono HB.out.size))
    clear pc0 pc1 pc2 pc3 pc4 pc5 pc6 pc7 pc8 pc9 pc10 pc11 pc12 pc13
    have XE := Lib.hid ow4
    have XN := Lib.hid nw4
    have Sw4 := Lib.hid bw4.size
    clear nw4 bw4
    obtain ⟨xv11, xf11, rfl, xo11, rfl⟩ := ow4
    obtain ⟨xA11, xc11, rfl⟩ :=  xo11.rd.slice
    clear xo11
    have X := Lib.hid (Blk.new (w := w4) (b := w4.heap.size) #[.int .i64 x.xMe, .int .i64 x.xPeer, .int .i64 x.xSecret, .int .i64 x.xWish, .int .i64 x.xLast, .int .i64 x.xState, .int .i64 x.xTag, .int .i64 x.xPeerTag, .int .i64 x.xTsn, .int .i64 x.xPeerTsn, .int .i64 x.xStreams, .slice xA11 x.xCookie.length xc11, .int .i64 x.xTries, .int .i64 x.xLeft] 67 rfl)
    have bx := (Below.refl w4.heap.size w4).alloc (Nat.le_refl _) (.cells #[.int .i64 x.xMe, .int .i64 x.xPeer, .int .i64 x.xSecret, .int .i64 x.xWish, .int .i64 x.xLast, .int .i64 x.xState, .int .i64 x.xTag, .int .i64 x.xPeerTag, .int .i64 x.xTsn, .int .i64 x.xPeerTsn, .int .i64 x.xStreams, .slice xA11 x.xCookie.length xc11, .int .i64 x.xTries, .int .i64 x.xLeft] 67)
    replace K := Lib.hid (K.out.keep bx)
    replace W0 := Lib.hid (EAscEnd.framed _ _ _ _ _ W0.out (fun b hb => bx.block b (EAscEnd.inside _ _ _ _ W0.out b hb)))
    replace W1 := Lib.hid (W1.out.keep (fun b hb => bx.block b (W1.out.inside b hb)))
    replace WB0 := Lib.hid (WB0.out.keep bx)
    replace XE := Lib.hid (EAscEnd.framed _ _ _ _ _ XE.out (fun b hb => bx.block b (EAscEnd.inside _ _ _ _ XE.out b hb)))
    replace HB := Lib.hid (HB.out.trans (bx.mono HB.out.size))
    clear bx
    have Swx := Lib.hid (show w4.heap.size + 1 = (World.alloc w4 (.cells #[.int .i64 x.xMe, .int .i64 x.xPeer, .int .i64 x.xSecret, .int .i64 x.xWish, .int .i64 x.xLast, .int .i64 x.xState, .int .i64 x.xTag, .int .i64 x.xPeerTag, .int .i64 x.xTsn, .int .i64 x.xPeerTsn, .int .i64 x.xStreams, .slice xA11 x.xCookie.length xc11, .int .i64 x.xTries, .int .i64 x.xLeft] 67)).heap.size by simp)
    as_aux_lemma =>
      go_wp2_with fail
      refine (implAscTick_n _ x _ XE.out.rd Hn.out).mono ?_
      rintro e w5 ⟨Gv0, Gv1, Gf0, Gf1, rfl, Go0, Go1, Gn, bw5⟩
      have Sw5 := Lib.hid bw5.size
      replace K := Lib.hid (K.out.keep bw5)
      replace W0 := Lib.hid (EAscEnd.framed _ _ _ _ _ W0.out (fun b hb => bw5.block b (EAscEnd.inside _ _ _ _ W0.out b hb)))
      replace W1 := Lib.hid (W1.out.keep (fun b hb => bw5.block b (W1.out.inside b hb)))
      replace WB0 := Lib.hid (WB0.out.keep bw5)
      replace XE := Lib.hid (EAscEnd.framed _ _ _ _ _ XE.out (fun b hb => bw5.block b (EAscEnd.inside _ _ _ _ XE.out b hb)))
      replace X := Lib.hid (X.out.keep bw5)
      replace HB := Lib.hid (HB.out.trans (bw5.mono HB.out.size))
      clear bw5
      have GN := Lib.hid Gn
      clear Gn
      have G0 := Lib.hid Go0
      obtain ⟨Gu0_11, Gg0_11, rfl, Gp0_11, rfl⟩ := Go0
      obtain ⟨G0A11, G0c11, rfl⟩ :=  Gp0_11.rd.slice
      clear Gp0_11
      have G1 := Lib.hid Go1
      clear Go1
      have GB0 := Lib.hid (Blk.new (w := w5) (b := w5.heap.size) #[.int .i64 (tickE x).xMe, .int .i64 (tickE x).xPeer, .int .i64 (tickE x).xSecret, .int .i64 (tickE x).xWish, .int .i64 (tickE x).xLast, .int .i64 (tickE x).xState, .int .i64 (tickE x).xTag, .int .i64 (tickE x).xPeerTag, .int .i64 (tickE x).xTsn, .int .i64 (tickE x).xPeerTsn, .int .i64 (tickE x).xStreams, .slice G0A11 (tickE x).xCookie.length G0c11, .int .i64 (tickE x).xTries, .int .i64 (tickE x).xLeft] 67 rfl)
      have bx := (Below.refl w5.heap.size w5).alloc (Nat.le_refl _) (.cells #[.int .i64 (tickE x).xMe, .int .i64 (tickE x).xPeer, .int .i64 (tickE x).xSecret, .int .i64 (tickE x).xWish, .int .i64 (tickE x).xLast, .int .i64 (tickE x).xState, .int .i64 (tickE x).xTag, .int .i64 (tickE x).xPeerTag, .int .i64 (tickE x).xTsn, .int .i64 (tickE x).xPeerTsn, .int .i64 (tickE x).xStreams, .slice G0A11 (tickE x).xCookie.length G0c11, .int .i64 (tickE x).xTries, .int .i64 (tickE x).xLeft] 67)
      replace K := Lib.hid (K.out.keep bx)
      replace W0 := Lib.hid (EAscEnd.framed _ _ _ _ _ W0.out (fun b hb => bx.block b (EAscEnd.inside _ _ _ _ W0.out b hb)))
      replace W1 := Lib.hid (W1.out.keep (fun b hb => bx.block b (W1.out.inside b hb)))
      replace WB0 := Lib.hid (WB0.out.keep bx)
      replace XE := Lib.hid (EAscEnd.framed _ _ _ _ _ XE.out (fun b hb => bx.block b (EAscEnd.inside _ _ _ _ XE.out b hb)))
      replace X := Lib.hid (X.out.keep bx)
      replace G0 := Lib.hid (EAscEnd.framed _ _ _ _ _ G0.out (fun b hb => bx.block b (EAscEnd.inside _ _ _ _ G0.out b hb)))
      replace G1 := Lib.hid (G1.out.keep (fun b hb => bx.block b (G1.out.inside b hb)))
      replace HB := Lib.hid (HB.out.trans (bx.mono HB.out.size))
      clear bx
      have SG0 := Lib.hid (show w5.heap.size + 1 = (World.alloc w5 (.cells #[.int .i64 (tickE x).xMe, .int .i64 (tickE x).xPeer, .int .i64 (tickE x).xSecret, .int .i64 (tickE x).xWish, .int .i64 (tickE x).xLast, .int .i64 (tickE x).xState, .int .i64 (tickE x).xTag, .int .i64 (tickE x).xPeerTag, .int .i64 (tickE x).xTsn, .int .i64 (tickE x).xPeerTsn, .int .i64 (tickE x).xStreams, .slice G0A11 (tickE x).xCookie.length G0c11, .int .i64 (tickE x).xTries, .int .i64 (tickE x).xLeft] 67)).heap.size by simp)
      as_aux_lemma =>
        have ea0 := GB0.out.at (i := 0) rfl
        have ea1 := GB0.out.at (i := 1) rfl
        have ea2 := GB0.out.at (i := 2) rfl
        have ea3 := GB0.out.at (i := 3) rfl
        have ea4 := GB0.out.at (i := 4) rfl
        have ea5 := GB0.out.at (i := 5) rfl
        have ea6 := GB0.out.at (i := 6) rfl
        have ea7 := GB0.out.at (i := 7) rfl
        have ea8 := GB0.out.at (i := 8) rfl
        have ea9 := GB0.out.at (i := 9) rfl
        have ea10 := GB0.out.at (i := 10) rfl
        have ea11 := GB0.out.at (i := 11) rfl
        have ea12 := GB0.out.at (i := 12) rfl
        have ea13 := GB0.out.at (i := 13) rfl
        have eb0 := WB0.out.at (i := 0) rfl
        have eb1 := WB0.out.at (i := 1) rfl
        have eb2 := WB0.out.at (i := 2) rfl
        have eb3 := WB0.out.at (i := 3) rfl
        have eb4 := WB0.out.at (i := 4) rfl
        have eb5 := WB0.out.at (i := 5) rfl
        have eb6 := WB0.out.at (i := 6) rfl
        have eb7 := WB0.out.at (i := 7) rfl
        have eb8 := WB0.out.at (i := 8) rfl
        have eb9 := WB0.out.at (i := 9) rfl
        have eb10 := WB0.out.at (i := 10) rfl
        have eb11 := WB0.out.at (i := 11) rfl
        have eb12 := WB0.out.at (i := 12) rfl
        have eb13 := WB0.out.at (i := 13) rfl
        go_wp2_with fail
        refine (eqAscEnd_s _ _ (tickE x) _ G0.out.rd W0.out.rd BD0.out).mono ?_
        rintro e we1 ⟨rfl, bwe1⟩
        have Swe1 := Lib.hid bwe1.size
        replace K := Lib.hid (K.out.keep bwe1)
        replace W0 := Lib.hid (EAscEnd.framed _ _ _ _ _ W0.out (fun b hb => bwe1.block b (EAscEnd.inside _ _ _ _ W0.out b hb)))
        replace W1 := Lib.hid (W1.out.keep (fun b hb => bwe1.block b (W1.out.inside b hb)))
        replace WB0 := Lib.hid (WB0.out.keep bwe1)
        replace XE := Lib.hid (EAscEnd.framed _ _ _ _ _ XE.out (fun b hb => bwe1.block b (EAscEnd.inside _ _ _ _ XE.out b hb)))
        replace X := Lib.hid (X.out.keep bwe1)
        replace G0 := Lib.hid (EAscEnd.framed _ _ _ _ _ G0.out (fun b hb => bwe1.block b (EAscEnd.inside _ _ _ _ G0.out b hb)))
        replace G1 := Lib.hid (G1.out.keep (fun b hb => bwe1.block b (G1.out.inside b hb)))
        replace GB0 := Lib.hid (GB0.out.keep bwe1)
        replace HB := Lib.hid (HB.out.trans (bwe1.mono HB.out.size))
        clear bwe1
        clear ea0 ea1 ea2 ea3 ea4 ea5 ea6 ea7 ea8 ea9 ea10 ea11 ea12 ea13
        clear eb0 eb1 eb2 eb3 eb4 eb5 eb6 eb7 eb8 eb9 eb10 eb11 eb12 eb13
        go_wp2_with fail
        refine (eqFrmPacketS_s _ _ (tickP x) _ G1.out.rd W1.out.rd BD1.out).mono ?_
        rintro e we2 ⟨rfl, bwe2⟩
        have Swe2 := Lib.hid bwe2.size
        replace K := Lib.hid (K.out.keep bwe2)
        replace W0 := Lib.hid (EAscEnd.framed _ _ _ _ _ W0.out (fun b hb => bwe2.block b (EAscEnd.inside _ _ _ _ W0.out b hb)))
        replace W1 := Lib.hid (W1.out.keep (fun b hb => bwe2.block b (W1.out.inside b hb)))
        replace WB0 := Lib.hid (WB0.out.keep bwe2)
        replace XE := Lib.hid (EAscEnd.framed _ _ _ _ _ XE.out (fun b hb => bwe2.block b (EAscEnd.inside _ _ _ _ XE.out b hb)))
        replace X := Lib.hid (X.out.keep bwe2)
        replace G0 := Lib.hid (EAscEnd.framed _ _ _ _ _ G0.out (fun b hb => bwe2.block b (EAscEnd.inside _ _ _ _ G0.out b hb)))
        replace G1 := Lib.hid (G1.out.keep (fun b hb => bwe2.block b (G1.out.inside b hb)))
        replace GB0 := Lib.hid (GB0.out.keep bwe2)
        replace HB := Lib.hid (HB.out.trans (bwe2.mono HB.out.size))
        clear bwe2
        as_aux_lemma =>
          have X5 := Lib.hid X.out.drew
          have K5 := Lib.hid K.out.drew
          have XR := Lib.hid (XE.out.rd.below (Below.refl _ _).drew)
          go_wp2_with fail
          go_region_held3 (fun y => y.cell? ⟨w4.heap.size, 0, none⟩ = some (.int .i64 x.xMe) ∧ y.cell? ⟨w4.heap.size, 1, none⟩ = some (.int .i64 x.xPeer) ∧ y.cell? ⟨w4.heap.size, 2, none⟩ = some (.int .i64 x.xSecret) ∧ y.cell? ⟨w4.heap.size, 3, none⟩ = some (.int .i64 x.xWish) ∧ y.cell? ⟨w4.heap.size, 4, none⟩ = some (.int .i64 x.xLast) ∧ y.cell? ⟨w4.heap.size, 5, none⟩ = some (.int .i64 x.xState) ∧ y.cell? ⟨w4.heap.size, 6, none⟩ = some (.int .i64 x.xTag) ∧ y.cell? ⟨w4.heap.size, 7, none⟩ = some (.int .i64 x.xPeerTag) ∧ y.cell? ⟨w4.heap.size, 8, none⟩ = some (.int .i64 x.xTsn) ∧ y.cell? ⟨w4.heap.size, 9, none⟩ = some (.int .i64 x.xPeerTsn) ∧ y.cell? ⟨w4.heap.size, 10, none⟩ = some (.int .i64 x.xStreams) ∧ y.cell? ⟨w4.heap.size, 11, none⟩ = some (.slice xA11 x.xCookie.length xc11) ∧ y.cell? ⟨w4.heap.size, 12, none⟩ = some (.int .i64 x.xTries) ∧ y.cell? ⟨w4.heap.size, 13, none⟩ = some (.int .i64 x.xLeft) ∧ y.cell? ⟨w.heap.size, 0, none⟩ = some (.int .i64 x.xMe) ∧ y.cell? ⟨w.heap.size, 1, none⟩ = some (.int .i64 x.xPeer) ∧ y.cell? ⟨w.heap.size, 2, none⟩ = some (.int .i64 x.xSecret) ∧ y.cell? ⟨w.heap.size, 3, none⟩ = some (.int .i64 x.xWish) ∧ y.cell? ⟨w.heap.size, 4, none⟩ = some (.int .i64 x.xLast) ∧ y.cell? ⟨w.heap.size, 5, none⟩ = some (.int .i64 x.xState) ∧ y.cell? ⟨w.heap.size, 6, none⟩ = some (.int .i64 x.xTag) ∧ y.cell? ⟨w.heap.size, 7, none⟩ = some (.int .i64 x.xPeerTag) ∧ y.cell? ⟨w.heap.size, 8, none⟩ = some (.int .i64 x.xTsn) ∧ y.cell? ⟨w.heap.size, 9, none⟩ = some (.int .i64 x.xPeerTsn) ∧ y.cell? ⟨w.heap.size, 10, none⟩ = some (.int .i64 x.xStreams) ∧ y.cell? ⟨w.heap.size, 11, none⟩ = some (v11) ∧ y.cell? ⟨w.heap.size, 12, none⟩ = some (.int .i64 x.xTries) ∧ y.cell? ⟨w.heap.size, 13, none⟩ = some (.int .i64 x.xLeft)) (first | (with_reducible exact scascTick X5.out K5.out) | (with_reducible exact scascTick X6.out K6.out) | (with_reducible exact scascTick X7.out K7.out)) (first | (go_at_call 49; refine (toAscEnd_n _ x _ (HF.out.below HB.out.drew) Hn.out).mono ?_; rintro e w6 ⟨cs6, f6, rfl, o6, n6, b6⟩; have O6 := Lib.hid o6.rd; have O46 := Lib.hid (XR.out.below b6); have X6 := Lib.hid (X5.out.keep b6); have K6 := Lib.hid (K5.out.keep b6); have B6 := Lib.hid b6; clear o6 n6 b6) | (go_at_call 51; refine (eqAscEnd_s _ _ x _ O46.out O6.out Hn.out).mono ?_; rintro e w7 ⟨rfl, b7⟩; have X7 := Lib.hid (X6.out.keep b7); have K7 := Lib.hid (K6.out.keep b7); have B7 := Lib.hid b7; clear b7))
          have bb : Below we2.heap.size we2 w7 := ((Below.refl we2.heap.size we2).drew.trans B6.out).trans (B7.out.mono (show we2.heap.size ≤ w6.heap.size from B6.out.size))
          have Sbb := Lib.hid bb.size
          replace K := Lib.hid (K.out.keep bb)
          replace W0 := Lib.hid (EAscEnd.framed _ _ _ _ _ W0.out (fun b hb => bb.block b (EAscEnd.inside _ _ _ _ W0.out b hb)))
          replace W1 := Lib.hid (W1.out.keep (fun b hb => bb.block b (W1.out.inside b hb)))
          replace WB0 := Lib.hid (WB0.out.keep bb)
          replace XE := Lib.hid (EAscEnd.framed _ _ _ _ _ XE.out (fun b hb => bb.block b (EAscEnd.inside _ _ _ _ XE.out b hb)))
          replace X := Lib.hid (X.out.keep bb)
          replace G0 := Lib.hid (EAscEnd.framed _ _ _ _ _ G0.out (fun b hb => bb.block b (EAscEnd.inside _ _ _ _ G0.out b hb)))
          replace G1 := Lib.hid (G1.out.keep (fun b hb => bb.block b (G1.out.inside b hb)))
          replace GB0 := Lib.hid (GB0.out.keep bb)
          replace HB := Lib.hid (HB.out.trans (bb.mono HB.out.size))
          clear bb X5 K5 XR X6 K6 X7 K7 B6 B7 O6 O46
          as_aux_lemma =>
            have px0 := X.out.at (i := 0) rfl
            have px1 := X.out.at (i := 1) rfl
            have px2 := X.out.at (i := 2) rfl
            have px3 := X.out.at (i := 3) rfl
            have px4 := X.out.at (i := 4) rfl
            have px5 := X.out.at (i := 5) rfl
            have px6 := X.out.at (i := 6) rfl
            have px7 := X.out.at (i := 7) rfl
            have px8 := X.out.at (i := 8) rfl
            have px9 := X.out.at (i := 9) rfl
            have px10 := X.out.at (i := 10) rfl
            have px11 := X.out.at (i := 11) rfl
            have px12 := X.out.at (i := 12) rfl
            have px13 := X.out.at (i := 13) rfl
            go_wp2_with fail
            refine (markAscEnd_m fw4 _ 1 x _ XE.out XN.out.1 (by omega) (by have := BX.out; omega)).mono ?_
            rintro e w8 ⟨rfl, o8, r8⟩
            have Sw8 := Lib.hid r8.size
            replace K := Lib.hid (K.out.frl r8 (XN.out.notin (by have := Sw2.out; have := Ww2.out; have := Sw3.out; have := SW0.out; have := Sw4.out; have := Swx.out; have := Sw5.out; have := SG0.out; have := Swe1.out; have := Swe2.out; have := Sbb.out; have := Sw8.out; first | omega | (simp; omega))))
            replace W0 := Lib.hid (EAscEnd.framed _ _ _ _ _ W0.out (fun b hb => r8.block b (EAscEnd.inside _ _ _ _ W0.out b hb) ((WN.out.left.far XN.out (by have := Sw2.out; have := Ww2.out; have := Sw3.out; have := SW0.out; have := Sw4.out; have := Swx.out; have := Sw5.out; have := SG0.out; have := Swe1.out; have := Swe2.out; have := Sbb.out; have := Sw8.out; first | omega | (simp; omega))) b hb)))
            replace W1 := Lib.hid (W1.out.keep (fun b hb => r8.block b (W1.out.inside b hb) ((WN.out.right.far XN.out (by have := Sw2.out; have := Ww2.out; have := Sw3.out; have := SW0.out; have := Sw4.out; have := Swx.out; have := Sw5.out; have := SG0.out; have := Swe1.out; have := Swe2.out; have := Sbb.out; have := Sw8.out; first | omega | (simp; omega))) b hb)))
            replace WB0 := Lib.hid (WB0.out.frl r8 (XN.out.notin (by have := Sw2.out; have := Ww2.out; have := Sw3.out; have := SW0.out; have := Sw4.out; have := Swx.out; have := Sw5.out; have := SG0.out; have := Swe1.out; have := Swe2.out; have := Sbb.out; have := Sw8.out; first | omega | (simp; omega))))
            replace X := Lib.hid (X.out.frl r8 (XN.out.notin (by have := Sw2.out; have := Ww2.out; have := Sw3.out; have := SW0.out; have := Sw4.out; have := Swx.out; have := Sw5.out; have := SG0.out; have := Swe1.out; have := Swe2.out; have := Sbb.out; have := Sw8.out; first | omega | (simp; omega))))
            replace G0 := Lib.hid (EAscEnd.framed _ _ _ _ _ G0.out (fun b hb => r8.block b (EAscEnd.inside _ _ _ _ G0.out b hb) ((GN.out.left.far XN.out (by have := Sw2.out; have := Ww2.out; have := Sw3.out; have := SW0.out; have := Sw4.out; have := Swx.out; have := Sw5.out; have := SG0.out; have := Swe1.out; have := Swe2.out; have := Sbb.out; have := Sw8.out; first | omega | (simp; omega))) b hb)))
            replace G1 := Lib.hid (G1.out.keep (fun b hb => r8.block b (G1.out.inside b hb) ((GN.out.right.far XN.out (by have := Sw2.out; have := Ww2.out; have := Sw3.out; have := SW0.out; have := Sw4.out; have := Swx.out; have := Sw5.out; have := SG0.out; have := Swe1.out; have := Swe2.out; have := Sbb.out; have := Sw8.out; first | omega | (simp; omega))) b hb)))
            replace GB0 := Lib.hid (GB0.out.frl r8 (XN.out.notin (by have := Sw2.out; have := Ww2.out; have := Sw3.out; have := SW0.out; have := Sw4.out; have := Swx.out; have := Sw5.out; have := SG0.out; have := Swe1.out; have := Swe2.out; have := Sbb.out; have := Sw8.out; first | omega | (simp; omega))))
            replace HB := Lib.hid (HB.out.trans (r8.belowNw XN.out (by have := Sw2.out; have := Ww2.out; have := Sw3.out; have := SW0.out; have := Sw4.out; have := Swx.out; have := Sw5.out; have := SG0.out; have := Swe1.out; have := Swe2.out; have := Sbb.out; have := Sw8.out; first | omega | (simp; omega)) HB.out.size))
            clear px0 px1 px2 px3 px4 px5 px6 px7 px8 px9 px10 px11 px12 px13
            clear o8 r8 X XE
            generalize hsx : saAscEnd x = sx at *
            clear hsx
            as_aux_lemma =>
              have ea0 := GB0.out.at (i := 0) rfl
              have ea1 := GB0.out.at (i := 1) rfl
              have ea2 := GB0.out.at (i := 2) rfl
              have ea3 := GB0.out.at (i := 3) rfl
              have ea4 := GB0.out.at (i := 4) rfl
              have ea5 := GB0.out.at (i := 5) rfl
              have ea6 := GB0.out.at (i := 6) rfl
              have ea7 := GB0.out.at (i := 7) rfl
              have ea8 := GB0.out.at (i := 8) rfl
              have ea9 := GB0.out.at (i := 9) rfl
              have ea10 := GB0.out.at (i := 10) rfl
              have ea11 := GB0.out.at (i := 11) rfl
              have ea12 := GB0.out.at (i := 12) rfl
              have ea13 := GB0.out.at (i := 13) rfl
              have eb0 := WB0.out.at (i := 0) rfl
              have eb1 := WB0.out.at (i := 1) rfl
              have eb2 := WB0.out.at (i := 2) rfl
              have eb3 := WB0.out.at (i := 3) rfl
              have eb4 := WB0.out.at (i := 4) rfl
              have eb5 := WB0.out.at (i := 5) rfl
              have eb6 := WB0.out.at (i := 6) rfl
              have eb7 := WB0.out.at (i := 7) rfl
              have eb8 := WB0.out.at (i := 8) rfl
              have eb9 := WB0.out.at (i := 9) rfl
              have eb10 := WB0.out.at (i := 10) rfl
              have eb11 := WB0.out.at (i := 11) rfl
              have eb12 := WB0.out.at (i := 12) rfl
              have eb13 := WB0.out.at (i := 13) rfl
              go_wp2_with fail
              refine (eqAscEnd_s _ _ (tickE x) _ G0.out.rd W0.out.rd BD0.out).mono ?_
              rintro e we3 ⟨rfl, bwe3⟩
              have Swe3 := Lib.hid bwe3.size
              replace K := Lib.hid (K.out.keep bwe3)
              replace W0 := Lib.hid (EAscEnd.framed _ _ _ _ _ W0.out (fun b hb => bwe3.block b (EAscEnd.inside _ _ _ _ W0.out b hb)))
              replace W1 := Lib.hid (W1.out.keep (fun b hb => bwe3.block b (W1.out.inside b hb)))
              replace WB0 := Lib.hid (WB0.out.keep bwe3)
              replace G0 := Lib.hid (EAscEnd.framed _ _ _ _ _ G0.out (fun b hb => bwe3.block b (EAscEnd.inside _ _ _ _ G0.out b hb)))
              replace G1 := Lib.hid (G1.out.keep (fun b hb => bwe3.block b (G1.out.inside b hb)))
              replace GB0 := Lib.hid (GB0.out.keep bwe3)
              replace HB := Lib.hid (HB.out.trans (bwe3.mono HB.out.size))
              clear bwe3
              clear ea0 ea1 ea2 ea3 ea4 ea5 ea6 ea7 ea8 ea9 ea10 ea11 ea12 ea13
              clear eb0 eb1 eb2 eb3 eb4 eb5 eb6 eb7 eb8 eb9 eb10 eb11 eb12 eb13
              go_wp2_with fail
              refine (eqFrmPacketS_s _ _ (tickP x) _ G1.out.rd W1.out.rd BD1.out).mono ?_
              rintro e we4 ⟨rfl, bwe4⟩
              have Swe4 := Lib.hid bwe4.size
              replace K := Lib.hid (K.out.keep bwe4)
              replace W0 := Lib.hid (EAscEnd.framed _ _ _ _ _ W0.out (fun b hb => bwe4.block b (EAscEnd.inside _ _ _ _ W0.out b hb)))
              replace W1 := Lib.hid (W1.out.keep (fun b hb => bwe4.block b (W1.out.inside b hb)))
              replace WB0 := Lib.hid (WB0.out.keep bwe4)
              replace G0 := Lib.hid (EAscEnd.framed _ _ _ _ _ G0.out (fun b hb => bwe4.block b (EAscEnd.inside _ _ _ _ G0.out b hb)))
              replace G1 := Lib.hid (G1.out.keep (fun b hb => bwe4.block b (G1.out.inside b hb)))
              replace GB0 := Lib.hid (GB0.out.keep bwe4)
              replace HB := Lib.hid (HB.out.trans (bwe4.mono HB.out.size))
              clear bwe4
              as_aux_lemma =>
                have pg0 := GB0.out.at (i := 0) rfl
                have pg1 := GB0.out.at (i := 1) rfl
                have pg2 := GB0.out.at (i := 2) rfl
                have pg3 := GB0.out.at (i := 3) rfl
                have pg4 := GB0.out.at (i := 4) rfl
                have pg5 := GB0.out.at (i := 5) rfl
                have pg6 := GB0.out.at (i := 6) rfl
                have pg7 := GB0.out.at (i := 7) rfl
                have pg8 := GB0.out.at (i := 8) rfl
                have pg9 := GB0.out.at (i := 9) rfl
                have pg10 := GB0.out.at (i := 10) rfl
                have pg11 := GB0.out.at (i := 11) rfl
                have pg12 := GB0.out.at (i := 12) rfl
                have pg13 := GB0.out.at (i := 13) rfl
                go_wp2_with fail
                refine (markAscEnd_m Gf0 _ (1) (tickE x) _ G0.out GN.out.left.1 (by omega) (by have := BM0.out; have := BM1.out; omega)).mono ?_
                rintro e wm0 ⟨rfl, owm0, rwm0⟩
                have Swm0 := Lib.hid rwm0.size
                replace K := Lib.hid (K.out.frl rwm0 (GN.out.left.notin (by have := Sw2.out; have := Ww2.out; have := Sw3.out; have := SW0.out; have := Sw4.out; have := Swx.out; have := Sw5.out; have := SG0.out; have := Swe1.out; have := Swe2.out; have := Sbb.out; have := Sw8.out; have := Swe3.out; have := Swe4.out; have := Swm0.out; first | omega | (simp; omega))))
                replace W0 := Lib.hid (EAscEnd.framed _ _ _ _ _ W0.out (fun b hb => rwm0.block b (EAscEnd.inside _ _ _ _ W0.out b hb) ((WN.out.left.far GN.out.left (by have := Sw2.out; have := Ww2.out; have := Sw3.out; have := SW0.out; have := Sw4.out; have := Swx.out; have := Sw5.out; have := SG0.out; have := Swe1.out; have := Swe2.out; have := Sbb.out; have := Sw8.out; have := Swe3.out; have := Swe4.out; have := Swm0.out; first | omega | (simp; omega))) b hb)))
                replace W1 := Lib.hid (W1.out.keep (fun b hb => rwm0.block b (W1.out.inside b hb) ((WN.out.right.far GN.out.left (by have := Sw2.out; have := Ww2.out; have := Sw3.out; have := SW0.out; have := Sw4.out; have := Swx.out; have := Sw5.out; have := SG0.out; have := Swe1.out; have := Swe2.out; have := Sbb.out; have := Sw8.out; have := Swe3.out; have := Swe4.out; have := Swm0.out; first | omega | (simp; omega))) b hb)))
                replace WB0 := Lib.hid (WB0.out.frl rwm0 (GN.out.left.notin (by have := Sw2.out; have := Ww2.out; have := Sw3.out; have := SW0.out; have := Sw4.out; have := Swx.out; have := Sw5.out; have := SG0.out; have := Swe1.out; have := Swe2.out; have := Sbb.out; have := Sw8.out; have := Swe3.out; have := Swe4.out; have := Swm0.out; first | omega | (simp; omega))))
                replace G1 := Lib.hid (G1.out.keep (fun b hb => rwm0.block b (G1.out.inside b hb) ((show ∀ b ∈ Gf1, b ∉ Gf0 by have h1 := GN.out.1; intro b hb hc; simp only [List.nodup_append, List.mem_append] at h1; grind) b hb)))
                replace GB0 := Lib.hid (GB0.out.frl rwm0 (GN.out.left.notin (by have := Sw2.out; have := Ww2.out; have := Sw3.out; have := SW0.out; have := Sw4.out; have := Swx.out; have := Sw5.out; have := SG0.out; have := Swe1.out; have := Swe2.out; have := Sbb.out; have := Sw8.out; have := Swe3.out; have := Swe4.out; have := Swm0.out; first | omega | (simp; omega))))
                replace HB := Lib.hid (HB.out.trans (rwm0.belowNw GN.out.left (by have := Sw2.out; have := Ww2.out; have := Sw3.out; have := SW0.out; have := Sw4.out; have := Swx.out; have := Sw5.out; have := SG0.out; have := Swe1.out; have := Swe2.out; have := Sbb.out; have := Sw8.out; have := Swe3.out; have := Swe4.out; have := Swm0.out; first | omega | (simp; omega)) HB.out.size))
                replace G0 := Lib.hid owm0
                clear owm0 rwm0
                clear pg0 pg1 pg2 pg3 pg4 pg5 pg6 pg7 pg8 pg9 pg10 pg11 pg12 pg13
                as_aux_lemma =>
                  go_wp2_with fail
                  refine (markFrmPacketS_m Gf1 _ (1 + ((saAscEnd (tickE x) : Nat) : Int)) (tickP x) _ G1.out GN.out.right.1 (by omega) (by have := BM0.out; have := BM1.out; omega)).mono ?_
                  rintro e wm1 ⟨rfl, owm1, rwm1⟩
                  have Swm1 := Lib.hid rwm1.size
                  replace K := Lib.hid (K.out.frl rwm1 (GN.out.right.notin (by have := Sw2.out; have := Ww2.out; have := Sw3.out; have := SW0.out; have := Sw4.out; have := Swx.out; have := Sw5.out; have := SG0.out; have := Swe1.out; have := Swe2.out; have := Sbb.out; have := Sw8.out; have := Swe3.out; have := Swe4.out; have := Swm0.out; have := Swm1.out; first | omega | (simp; omega))))
                  replace W0 := Lib.hid (EAscEnd.framed _ _ _ _ _ W0.out (fun b hb => rwm1.block b (EAscEnd.inside _ _ _ _ W0.out b hb) ((WN.out.left.far GN.out.right (by have := Sw2.out; have := Ww2.out; have := Sw3.out; have := SW0.out; have := Sw4.out; have := Swx.out; have := Sw5.out; have := SG0.out; have := Swe1.out; have := Swe2.out; have := Sbb.out; have := Sw8.out; have := Swe3.out; have := Swe4.out; have := Swm0.out; have := Swm1.out; first | omega | (simp; omega))) b hb)))
                  replace W1 := Lib.hid (W1.out.keep (fun b hb => rwm1.block b (W1.out.inside b hb) ((WN.out.right.far GN.out.right (by have := Sw2.out; have := Ww2.out; have := Sw3.out; have := SW0.out; have := Sw4.out; have := Swx.out; have := Sw5.out; have := SG0.out; have := Swe1.out; have := Swe2.out; have := Sbb.out; have := Sw8.out; have := Swe3.out; have := Swe4.out; have := Swm0.out; have := Swm1.out; first | omega | (simp; omega))) b hb)))
                  replace WB0 := Lib.hid (WB0.out.frl rwm1 (GN.out.right.notin (by have := Sw2.out; have := Ww2.out; have := Sw3.out; have := SW0.out; have := Sw4.out; have := Swx.out; have := Sw5.out; have := SG0.out; have := Swe1.out; have := Swe2.out; have := Sbb.out; have := Sw8.out; have := Swe3.out; have := Swe4.out; have := Swm0.out; have := Swm1.out; first | omega | (simp; omega))))
                  replace G0 := Lib.hid (EAscEnd.framed _ _ _ _ _ G0.out (fun b hb => rwm1.block b (EAscEnd.inside _ _ _ _ G0.out b hb) ((show ∀ b ∈ Gf0, b ∉ Gf1 by have h1 := GN.out.1; intro b hb hc; simp only [List.nodup_append, List.mem_append] at h1; grind) b hb)))
                  replace GB0 := Lib.hid (GB0.out.frl rwm1 (GN.out.right.notin (by have := Sw2.out; have := Ww2.out; have := Sw3.out; have := SW0.out; have := Sw4.out; have := Swx.out; have := Sw5.out; have := SG0.out; have := Swe1.out; have := Swe2.out; have := Sbb.out; have := Sw8.out; have := Swe3.out; have := Swe4.out; have := Swm0.out; have := Swm1.out; first | omega | (simp; omega))))
                  replace HB := Lib.hid (HB.out.trans (rwm1.belowNw GN.out.right (by have := Sw2.out; have := Ww2.out; have := Sw3.out; have := SW0.out; have := Sw4.out; have := Swx.out; have := Sw5.out; have := SG0.out; have := Swe1.out; have := Swe2.out; have := Sbb.out; have := Sw8.out; have := Swe3.out; have := Swe4.out; have := Swm0.out; have := Swm1.out; first | omega | (simp; omega)) HB.out.size))
                  replace G1 := Lib.hid owm1
                  clear owm1 rwm1
                  as_aux_lemma =>
                    have pg0 := GB0.out.at (i := 0) rfl
                    have pg1 := GB0.out.at (i := 1) rfl
                    have pg2 := GB0.out.at (i := 2) rfl
                    have pg3 := GB0.out.at (i := 3) rfl
                    have pg4 := GB0.out.at (i := 4) rfl
                    have pg5 := GB0.out.at (i := 5) rfl
                    have pg6 := GB0.out.at (i := 6) rfl
                    have pg7 := GB0.out.at (i := 7) rfl
                    have pg8 := GB0.out.at (i := 8) rfl
                    have pg9 := GB0.out.at (i := 9) rfl
                    have pg10 := GB0.out.at (i := 10) rfl
                    have pg11 := GB0.out.at (i := 11) rfl
                    have pg12 := GB0.out.at (i := 12) rfl
                    have pg13 := GB0.out.at (i := 13) rfl
                    go_wp2_with fail
                    refine (heldAscEnd_h _ (1) (tickE x) _ G0.out.rd (by omega) (by have := BM0.out; have := BM1.out; omega)).mono ?_
                    rintro e wh1 ⟨rfl, bwh1⟩
                    have Swh1 := Lib.hid bwh1.size
                    replace K := Lib.hid (K.out.keep bwh1)
                    replace W0 := Lib.hid (EAscEnd.framed _ _ _ _ _ W0.out (fun b hb => bwh1.block b (EAscEnd.inside _ _ _ _ W0.out b hb)))
                    replace W1 := Lib.hid (W1.out.keep (fun b hb => bwh1.block b (W1.out.inside b hb)))
                    replace WB0 := Lib.hid (WB0.out.keep bwh1)
                    replace G0 := Lib.hid (EAscEnd.framed _ _ _ _ _ G0.out (fun b hb => bwh1.block b (EAscEnd.inside _ _ _ _ G0.out b hb)))
                    replace G1 := Lib.hid (G1.out.keep (fun b hb => bwh1.block b (G1.out.inside b hb)))
                    replace GB0 := Lib.hid (GB0.out.keep bwh1)
                    replace HB := Lib.hid (HB.out.trans (bwh1.mono HB.out.size))
                    clear bwh1
                    clear pg0 pg1 pg2 pg3 pg4 pg5 pg6 pg7 pg8 pg9 pg10 pg11 pg12 pg13
                    go_wp2_with fail
                    refine (heldFrmPacketS_h _ (1 + ((saAscEnd (tickE x) : Nat) : Int)) (tickP x) _ G1.out.rd (by omega) (by have := BM0.out; have := BM1.out; omega)).mono ?_
                    rintro e wh2 ⟨rfl, bwh2⟩
                    have Swh2 := Lib.hid bwh2.size
                    replace K := Lib.hid (K.out.keep bwh2)
                    replace W0 := Lib.hid (EAscEnd.framed _ _ _ _ _ W0.out (fun b hb => bwh2.block b (EAscEnd.inside _ _ _ _ W0.out b hb)))
                    replace W1 := Lib.hid (W1.out.keep (fun b hb => bwh2.block b (W1.out.inside b hb)))
                    replace WB0 := Lib.hid (WB0.out.keep bwh2)
                    replace G0 := Lib.hid (EAscEnd.framed _ _ _ _ _ G0.out (fun b hb => bwh2.block b (EAscEnd.inside _ _ _ _ G0.out b hb)))
                    replace G1 := Lib.hid (G1.out.keep (fun b hb => bwh2.block b (G1.out.inside b hb)))
                    replace GB0 := Lib.hid (GB0.out.keep bwh2)
                    replace HB := Lib.hid (HB.out.trans (bwh2.mono HB.out.size))
                    clear bwh2
                    as_aux_lemma =>
                      have pc0 := K.out.at (i := 0) rfl
                      have pc1 := K.out.at (i := 1) rfl
                      have pc2 := K.out.at (i := 2) rfl
                      have pc3 := K.out.at (i := 3) rfl
                      have pc4 := K.out.at (i := 4) rfl
                      have pc5 := K.out.at (i := 5) rfl
                      have pc6 := K.out.at (i := 6) rfl
                      have pc7 := K.out.at (i := 7) rfl
                      have pc8 := K.out.at (i := 8) rfl
                      have pc9 := K.out.at (i := 9) rfl
                      have pc10 := K.out.at (i := 10) rfl
                      have pc11 := K.out.at (i := 11) rfl
                      have pc12 := K.out.at (i := 12) rfl
                      have pc13 := K.out.at (i := 13) rfl
                      go_wp2_with fail
                      refine (toAscEnd_n _ x _ (HF.out.below HB.out) Hn.out).mono ?_
                      rintro e w9 ⟨csw9, fw9, rfl, ow9, nw9, bw9⟩
                      replace K := Lib.hid (K.out.keep bw9)
                      replace W0 := Lib.hid (EAscEnd.framed _ _ _ _ _ W0.out (fun b hb => bw9.block b (EAscEnd.inside _ _ _ _ W0.out b hb)))
                      replace W1 := Lib.hid (W1.out.keep (fun b hb => bw9.block b (W1.out.inside b hb)))
                      replace WB0 := Lib.hid (WB0.out.keep bw9)
                      replace G0 := Lib.hid (EAscEnd.framed _ _ _ _ _ G0.out (fun b hb => bw9.block b (EAscEnd.inside _ _ _ _ G0.out b hb)))
                      replace G1 := Lib.hid (G1.out.keep (fun b hb => bw9.block b (G1.out.inside b hb)))
                      replace GB0 := Lib.hid (GB0.out.keep bw9)
                      replace HB := Lib.hid (HB.out.trans (bw9.mono HB.out.size))
                      clear pc0 pc1 pc2 pc3 pc4 pc5 pc6 pc7 pc8 pc9 pc10 pc11 pc12 pc13
                      have O9 := Lib.hid ow9.rd
                      have Sw9 := Lib.hid bw9.size
                      clear ow9 nw9 bw9
                      go_wp2_with fail
                      refine (implAscTick_n _ x _ O9.out Hn.out).mono ?_
                      rintro e w10 ⟨Hv0, Hv1, Hf0, Hf1, rfl, Ho0, Ho1, Hn, bw10⟩
                      have Sw10 := Lib.hid bw10.size
                      replace K := Lib.hid (K.out.keep bw10)
                      replace W0 := Lib.hid (EAscEnd.framed _ _ _ _ _ W0.out (fun b hb => bw10.block b (EAscEnd.inside _ _ _ _ W0.out b hb)))
                      replace W1 := Lib.hid (W1.out.keep (fun b hb => bw10.block b (W1.out.inside b hb)))
                      replace WB0 := Lib.hid (WB0.out.keep bw10)
                      replace G0 := Lib.hid (EAscEnd.framed _ _ _ _ _ G0.out (fun b hb => bw10.block b (EAscEnd.inside _ _ _ _ G0.out b hb)))
                      replace G1 := Lib.hid (G1.out.keep (fun b hb => bw10.block b (G1.out.inside b hb)))
                      replace GB0 := Lib.hid (GB0.out.keep bw10)
                      replace HB := Lib.hid (HB.out.trans (bw10.mono HB.out.size))
                      clear bw10
                      have HN := Lib.hid Hn
                      clear Hn
                      have H0 := Lib.hid Ho0
                      obtain ⟨Hu0_11, Hg0_11, rfl, Hp0_11, rfl⟩ := Ho0
                      obtain ⟨H0A11, H0c11, rfl⟩ :=  Hp0_11.rd.slice
                      clear Hp0_11
                      have H1 := Lib.hid Ho1
                      clear Ho1
                      have HB0 := Lib.hid (Blk.new (w := w10) (b := w10.heap.size) #[.int .i64 (tickE x).xMe, .int .i64 (tickE x).xPeer, .int .i64 (tickE x).xSecret, .int .i64 (tickE x).xWish, .int .i64 (tickE x).xLast, .int .i64 (tickE x).xState, .int .i64 (tickE x).xTag, .int .i64 (tickE x).xPeerTag, .int .i64 (tickE x).xTsn, .int .i64 (tickE x).xPeerTsn, .int .i64 (tickE x).xStreams, .slice H0A11 (tickE x).xCookie.length H0c11, .int .i64 (tickE x).xTries, .int .i64 (tickE x).xLeft] 67 rfl)
                      have bx := (Below.refl w10.heap.size w10).alloc (Nat.le_refl _) (.cells #[.int .i64 (tickE x).xMe, .int .i64 (tickE x).xPeer, .int .i64 (tickE x).xSecret, .int .i64 (tickE x).xWish, .int .i64 (tickE x).xLast, .int .i64 (tickE x).xState, .int .i64 (tickE x).xTag, .int .i64 (tickE x).xPeerTag, .int .i64 (tickE x).xTsn, .int .i64 (tickE x).xPeerTsn, .int .i64 (tickE x).xStreams, .slice H0A11 (tickE x).xCookie.length H0c11, .int .i64 (tickE x).xTries, .int .i64 (tickE x).xLeft] 67)
                      replace K := Lib.hid (K.out.keep bx)
                      replace W0 := Lib.hid (EAscEnd.framed _ _ _ _ _ W0.out (fun b hb => bx.block b (EAscEnd.inside _ _ _ _ W0.out b hb)))
                      replace W1 := Lib.hid (W1.out.keep (fun b hb => bx.block b (W1.out.inside b hb)))
                      replace WB0 := Lib.hid (WB0.out.keep bx)
                      replace G0 := Lib.hid (EAscEnd.framed _ _ _ _ _ G0.out (fun b hb => bx.block b (EAscEnd.inside _ _ _ _ G0.out b hb)))
                      replace G1 := Lib.hid (G1.out.keep (fun b hb => bx.block b (G1.out.inside b hb)))
                      replace GB0 := Lib.hid (GB0.out.keep bx)
                      replace H0 := Lib.hid (EAscEnd.framed _ _ _ _ _ H0.out (fun b hb => bx.block b (EAscEnd.inside _ _ _ _ H0.out b hb)))
                      replace H1 := Lib.hid (H1.out.keep (fun b hb => bx.block b (H1.out.inside b hb)))
                      replace HB := Lib.hid (HB.out.trans (bx.mono HB.out.size))
                      clear bx
                      have SH0 := Lib.hid (show w10.heap.size + 1 = (World.alloc w10 (.cells #[.int .i64 (tickE x).xMe, .int .i64 (tickE x).xPeer, .int .i64 (tickE x).xSecret, .int .i64 (tickE x).xWish, .int .i64 (tickE x).xLast, .int .i64 (tickE x).xState, .int .i64 (tickE x).xTag, .int .i64 (tickE x).xPeerTag, .int .i64 (tickE x).xTsn, .int .i64 (tickE x).xPeerTsn, .int .i64 (tickE x).xStreams, .slice H0A11 (tickE x).xCookie.length H0c11, .int .i64 (tickE x).xTries, .int .i64 (tickE x).xLeft] 67)).heap.size by simp)
                      clear O9
                      as_aux_lemma =>
                        have ea0 := HB0.out.at (i := 0) rfl
                        have ea1 := HB0.out.at (i := 1) rfl
                        have ea2 := HB0.out.at (i := 2) rfl
                        have ea3 := HB0.out.at (i := 3) rfl
                        have ea4 := HB0.out.at (i := 4) rfl
                        have ea5 := HB0.out.at (i := 5) rfl
                        have ea6 := HB0.out.at (i := 6) rfl
                        have ea7 := HB0.out.at (i := 7) rfl
                        have ea8 := HB0.out.at (i := 8) rfl
                        have ea9 := HB0.out.at (i := 9) rfl
                        have ea10 := HB0.out.at (i := 10) rfl
                        have ea11 := HB0.out.at (i := 11) rfl
                        have ea12 := HB0.out.at (i := 12) rfl
                        have ea13 := HB0.out.at (i := 13) rfl
                        have eb0 := WB0.out.at (i := 0) rfl
                        have eb1 := WB0.out.at (i := 1) rfl
                        have eb2 := WB0.out.at (i := 2) rfl
                        have eb3 := WB0.out.at (i := 3) rfl
                        have eb4 := WB0.out.at (i := 4) rfl
                        have eb5 := WB0.out.at (i := 5) rfl
                        have eb6 := WB0.out.at (i := 6) rfl
                        have eb7 := WB0.out.at (i := 7) rfl
                        have eb8 := WB0.out.at (i := 8) rfl
                        have eb9 := WB0.out.at (i := 9) rfl
                        have eb10 := WB0.out.at (i := 10) rfl
                        have eb11 := WB0.out.at (i := 11) rfl
                        have eb12 := WB0.out.at (i := 12) rfl
                        have eb13 := WB0.out.at (i := 13) rfl
                        go_wp2_with fail
                        refine (eqAscEnd_s _ _ (tickE x) _ H0.out.rd W0.out.rd BD0.out).mono ?_
                        rintro e we5 ⟨rfl, bwe5⟩
                        have Swe5 := Lib.hid bwe5.size
                        replace K := Lib.hid (K.out.keep bwe5)
                        replace W0 := Lib.hid (EAscEnd.framed _ _ _ _ _ W0.out (fun b hb => bwe5.block b (EAscEnd.inside _ _ _ _ W0.out b hb)))
                        replace W1 := Lib.hid (W1.out.keep (fun b hb => bwe5.block b (W1.out.inside b hb)))
                        replace WB0 := Lib.hid (WB0.out.keep bwe5)
                        replace G0 := Lib.hid (EAscEnd.framed _ _ _ _ _ G0.out (fun b hb => bwe5.block b (EAscEnd.inside _ _ _ _ G0.out b hb)))
                        replace G1 := Lib.hid (G1.out.keep (fun b hb => bwe5.block b (G1.out.inside b hb)))
                        replace GB0 := Lib.hid (GB0.out.keep bwe5)
                        replace H0 := Lib.hid (EAscEnd.framed _ _ _ _ _ H0.out (fun b hb => bwe5.block b (EAscEnd.inside _ _ _ _ H0.out b hb)))
                        replace H1 := Lib.hid (H1.out.keep (fun b hb => bwe5.block b (H1.out.inside b hb)))
                        replace HB0 := Lib.hid (HB0.out.keep bwe5)
                        replace HB := Lib.hid (HB.out.trans (bwe5.mono HB.out.size))
                        clear bwe5
                        clear ea0 ea1 ea2 ea3 ea4 ea5 ea6 ea7 ea8 ea9 ea10 ea11 ea12 ea13
                        clear eb0 eb1 eb2 eb3 eb4 eb5 eb6 eb7 eb8 eb9 eb10 eb11 eb12 eb13
                        go_wp2_with fail
                        refine (eqFrmPacketS_s _ _ (tickP x) _ H1.out.rd W1.out.rd BD1.out).mono ?_
                        rintro e we6 ⟨rfl, bwe6⟩
                        have Swe6 := Lib.hid bwe6.size
                        replace K := Lib.hid (K.out.keep bwe6)
                        replace W0 := Lib.hid (EAscEnd.framed _ _ _ _ _ W0.out (fun b hb => bwe6.block b (EAscEnd.inside _ _ _ _ W0.out b hb)))
                        replace W1 := Lib.hid (W1.out.keep (fun b hb => bwe6.block b (W1.out.inside b hb)))
                        replace WB0 := Lib.hid (WB0.out.keep bwe6)
                        replace G0 := Lib.hid (EAscEnd.framed _ _ _ _ _ G0.out (fun b hb => bwe6.block b (EAscEnd.inside _ _ _ _ G0.out b hb)))
                        replace G1 := Lib.hid (G1.out.keep (fun b hb => bwe6.block b (G1.out.inside b hb)))
                        replace GB0 := Lib.hid (GB0.out.keep bwe6)
                        replace H0 := Lib.hid (EAscEnd.framed _ _ _ _ _ H0.out (fun b hb => bwe6.block b (EAscEnd.inside _ _ _ _ H0.out b hb)))
                        replace H1 := Lib.hid (H1.out.keep (fun b hb => bwe6.block b (H1.out.inside b hb)))
                        replace HB0 := Lib.hid (HB0.out.keep bwe6)
                        replace HB := Lib.hid (HB.out.trans (bwe6.mono HB.out.size))
                        clear bwe6
                        as_aux_lemma =>
                          have pg0 := GB0.out.at (i := 0) rfl
                          have pg1 := GB0.out.at (i := 1) rfl
                          have pg2 := GB0.out.at (i := 2) rfl
                          have pg3 := GB0.out.at (i := 3) rfl
                          have pg4 := GB0.out.at (i := 4) rfl
                          have pg5 := GB0.out.at (i := 5) rfl
                          have pg6 := GB0.out.at (i := 6) rfl
                          have pg7 := GB0.out.at (i := 7) rfl
                          have pg8 := GB0.out.at (i := 8) rfl
                          have pg9 := GB0.out.at (i := 9) rfl
                          have pg10 := GB0.out.at (i := 10) rfl
                          have pg11 := GB0.out.at (i := 11) rfl
                          have pg12 := GB0.out.at (i := 12) rfl
                          have pg13 := GB0.out.at (i := 13) rfl
                          go_wp2_with fail
                          refine (heldAscEnd_h _ (1) (tickE x) _ G0.out.rd (by omega) (by have := BM0.out; have := BM1.out; omega)).mono ?_
                          rintro e wh3 ⟨rfl, bwh3⟩
                          have Swh3 := Lib.hid bwh3.size
                          replace K := Lib.hid (K.out.keep bwh3)
                          replace W0 := Lib.hid (EAscEnd.framed _ _ _ _ _ W0.out (fun b hb => bwh3.block b (EAscEnd.inside _ _ _ _ W0.out b hb)))
                          replace W1 := Lib.hid (W1.out.keep (fun b hb => bwh3.block b (W1.out.inside b hb)))
                          replace WB0 := Lib.hid (WB0.out.keep bwh3)
                          replace G0 := Lib.hid (EAscEnd.framed _ _ _ _ _ G0.out (fun b hb => bwh3.block b (EAscEnd.inside _ _ _ _ G0.out b hb)))
                          replace G1 := Lib.hid (G1.out.keep (fun b hb => bwh3.block b (G1.out.inside b hb)))
                          replace GB0 := Lib.hid (GB0.out.keep bwh3)
                          replace H0 := Lib.hid (EAscEnd.framed _ _ _ _ _ H0.out (fun b hb => bwh3.block b (EAscEnd.inside _ _ _ _ H0.out b hb)))
                          replace H1 := Lib.hid (H1.out.keep (fun b hb => bwh3.block b (H1.out.inside b hb)))
                          replace HB0 := Lib.hid (HB0.out.keep bwh3)
                          replace HB := Lib.hid (HB.out.trans (bwh3.mono HB.out.size))
                          clear bwh3
                          clear pg0 pg1 pg2 pg3 pg4 pg5 pg6 pg7 pg8 pg9 pg10 pg11 pg12 pg13
                          go_wp2_with fail
                          refine (heldFrmPacketS_h _ (1 + ((saAscEnd (tickE x) : Nat) : Int)) (tickP x) _ G1.out.rd (by omega) (by have := BM0.out; have := BM1.out; omega)).mono ?_
                          rintro e wh4 ⟨rfl, bwh4⟩
                          have Swh4 := Lib.hid bwh4.size
                          replace K := Lib.hid (K.out.keep bwh4)
                          replace W0 := Lib.hid (EAscEnd.framed _ _ _ _ _ W0.out (fun b hb => bwh4.block b (EAscEnd.inside _ _ _ _ W0.out b hb)))
                          replace W1 := Lib.hid (W1.out.keep (fun b hb => bwh4.block b (W1.out.inside b hb)))
                          replace WB0 := Lib.hid (WB0.out.keep bwh4)
                          replace G0 := Lib.hid (EAscEnd.framed _ _ _ _ _ G0.out (fun b hb => bwh4.block b (EAscEnd.inside _ _ _ _ G0.out b hb)))
                          replace G1 := Lib.hid (G1.out.keep (fun b hb => bwh4.block b (G1.out.inside b hb)))
                          replace GB0 := Lib.hid (GB0.out.keep bwh4)
                          replace H0 := Lib.hid (EAscEnd.framed _ _ _ _ _ H0.out (fun b hb => bwh4.block b (EAscEnd.inside _ _ _ _ H0.out b hb)))
                          replace H1 := Lib.hid (H1.out.keep (fun b hb => bwh4.block b (H1.out.inside b hb)))
                          replace HB0 := Lib.hid (HB0.out.keep bwh4)
                          replace HB := Lib.hid (HB.out.trans (bwh4.mono HB.out.size))
                          clear bwh4
                          go_wp2
                          go_ret
                          exact ⟨rfl, HB.out⟩
set_option maxRecDepth 100000 in
theorem ascTick_lifted (os : Os) (started : os.Started) (H : Type) (enc : TypeId × Value → H) :
    ReturnsInHanded {} Try.checked os 10 .any (Rows.fnExactAscTickSpec.pre6 enc Try.prog Try.f10 Rows.fnExactAscTickRow.domain false) (Rows.fnExactAscTickSpec.post enc Try.prog Try.f10 false true false false) := by
  refine returnsInHanded_of_change (C := Try.checked) ownKnob_none started (by kernel_rfl) Try.func10
    (ChangeSpec.witness6 (enc := enc) (C := Try.checked) false ⟨#[], #[.agg #[.int .i64 0, .int .i64 0, .int .i64 0, .int .i64 0, .int .i64 0, .int .i64 0, .int .i64 0, .int .i64 0, .int .i64 0, .int .i64 0, .int .i64 0, .slice none 0 0, .int .i64 0, .int .i64 0]], []⟩ 8 (by kernel_rfl) (by kernel_rfl) (by kernel_rfl) (by kernel_rfl)) ?_
  intro W base args ds gs before hval hW _ _
  have hW' := hW
  obtain ⟨p, q, hA, _⟩ := hW
  have hA' : DataW.TrodAll enc Try.prog W 0 (fun _ => true) true [65] args.toList ds p := hA
  obtain ⟨v0, vs0, d0, ds0, p0, q0, hargs, rfl, rfl, h0, r0⟩ := trodAll_cons hA'
  obtain ⟨rfl, rfl, rfl⟩ := trodAll_nil r0
  obtain rfl : args = #[v0] := by cases args; simp_all
  obtain ⟨cs, rfl, hcs⟩ := okWide_struct Try.underlying65 (hval 0 65 v0 rfl rfl)
  rw [cells_AscEnd] at hcs
  obtain ⟨fuel, hf⟩ := h0
  simp only [Value.cells] at hf
  obtain ⟨x, hx⟩ := read_AscEnd _ _ _ (by simpa using hcs) hf
  refine (lawAscTick cs.toList x W hx).mono fun e W' ⟨he, hb⟩ => ?_
  subst he
  exact ⟨_, rfl, law_post (tb := 4) laidOut (by decide +kernel) rfl rfl Try.underlying4 (by rintro _ rfl; rfl) hW' hb⟩

theorem ascTick_proved : Rows.FnExactAscTickSaid :=
  OpenClaim.holds_of_wide 10 Try.f10 rfl rfl rfl rfl rfl rfl rfl ⟨rfl, rfl, rfl, rfl, rfl⟩ rfl rfl rfl rfl rfl (by kernel_rfl) Try.func10 ascTick_closed
    (of_decide_eq_true (by kernel_rfl)) (by unfold Func.isWrapper; first | (rw [if_pos (by decide +kernel)]; kernel_rfl) | (rw [if_neg (by decide +kernel)]; exact ⟨rfl, rfl⟩))
    (fun os started H enc _ => ascTick_lifted os started H enc)
#print axioms ascTick_proved
end Go.Proofs.Ythdjjgbjemaabaa
