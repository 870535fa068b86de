/-
  DatAck of the program answers at every argument as the model's DatAck, writes nothing into its argument, and its answer is memory of its own (Rows.FnExactDatAckSaid). No condition. (Written by wip/tools/genlawmem.py.)
-/
import Derived.Test.YthdjjgbjemaabaaAck
import Derived.Test.YthdjjgbjemaabaaClDatAck
import Derived.Test.YthdjjgbjemaabaaMkDatIn
import Derived.Test.YthdjjgbjemaabaaMkFrmGap
import Derived.Test.YthdjjgbjemaabaaAppI
import Derived.Test.YthdjjgbjemaabaaRow
import Derived.ChangeSame
import Derived.Deep.RegionHeld3
namespace Go.Proofs.Ythdjjgbjemaabaa
open Go.ChangeShapes Go.WideShapes Go.ChangeAt Go.RowKit
set_option linter.unusedVariables false
set_option linter.unusedSimpArgs false

theorem scdatAck {x : World} {b c : Nat} {p0 p1 p2 p3 p4 q0 q1 q2 q3 q4 : Value} (h : Blk x b [p0, p1, p2, p3, p4]) (k : Blk x c [q0, q1, q2, q3, q4]) :
    x.cell? ⟨b, 0, none⟩ = some p0 ∧ x.cell? ⟨b, 1, none⟩ = some p1 ∧ x.cell? ⟨b, 2, none⟩ = some p2 ∧ x.cell? ⟨b, 3, none⟩ = some p3 ∧ x.cell? ⟨b, 4, none⟩ = some p4 ∧ x.cell? ⟨c, 0, none⟩ = some q0 ∧ x.cell? ⟨c, 1, none⟩ = some q1 ∧ x.cell? ⟨c, 2, none⟩ = some q2 ∧ x.cell? ⟨c, 3, none⟩ = some q3 ∧ x.cell? ⟨c, 4, none⟩ = some q4 :=
  ⟨h.at rfl, h.at rfl, h.at rfl, h.at rfl, h.at rfl, k.at rfl, k.at rfl, k.at rfl, k.at rfl, k.at rfl⟩
theorem smz_DatPiece (xs : List DDatPiece) : szL smDatPiece xs ≤ 64 * (zL zDatPiece xs) := by
  induction xs with
  | nil => simp [szL]
  | cons x xs ih =>
    have h1 : smDatPiece x ≤ 64 * (1 + zDatPiece x) := by
      simp only [smDatPiece, zDatPiece]; omega
    simp only [zL, szL, List.length_cons] at ih ⊢; omega
theorem smz_FrmGap (xs : List DFrmGap) : szL smFrmGap xs ≤ 64 * (xs.length) := by
  induction xs with
  | nil => simp [szL]
  | cons x xs ih =>
    have h1 : smFrmGap x ≤ 64 * (1) := by
      simp only [smFrmGap]; omega
    simp only [szL, List.length_cons] at ih ⊢; omega
set_option maxRecDepth 100000 in
set_option maxHeartbeats 8000000 in
theorem lawDatAck (cs : List Value) (x : DDatIn) (w : World) (h : FDatIn w cs x) : Calls Try.prog 13 #[.agg cs.toArray] w fun e w' => e = .returned (.bool true) ∧ Below w.heap.size w w' := by
  have HF := Lib.hid h
  obtain ⟨v2, v3, v4, rfl, h2, h3, h4⟩ := h
  have K := Lib.hid (Blk.new (w := w) (b := w.heap.size) #[.int .i64 x.xStreams, .int .i64 x.xCum, v2, v3, v4] 115 rfl)
  have HB := Lib.hid ((Below.refl w.heap.size w).alloc (Nat.le_refl _) (.cells #[.int .i64 x.xStreams, .int .i64 x.xCum, v2, v3, v4] 115))
  clear h2 h3 h4
  go_enter Try.func13, Try.ntmps13
  go_wp2_with fail
  refine (szDatIn_z _ x _ _ (HF.out.below HB.out) ⟨by omega, by omega⟩).mono ?_
  rintro e w1 ⟨rfl, b1⟩
  replace K := Lib.hid (K.out.keep b1)
  replace HB := Lib.hid (HB.out.trans (b1.mono HB.out.size))
  clear b1
  have hr := szR_cases 1048576 (zDatIn x) (by omega)
  generalize szR 1048576 (zDatIn x) = r at *
  rcases hr with ⟨rfl, _⟩ | ⟨hr, _, ht⟩
  · go_wp2
    go_ret
    exact ⟨rfl, HB.out⟩
  have Hn := Lib.hid (show zDatIn x ≤ 1048576 by omega)
  clear ht
  obtain bd1 := datAck_bd x Hn.out
  have BD1 := Lib.hid bd1
  have BM1 := Lib.hid (show szL smFrmGap (ackGaps x) ≤ 67108864 by have := smz_FrmGap (ackGaps x); omega)
  clear bd1
  have BX := Lib.hid (show saDatIn x ≤ 67108864 by have hn := Hn.out; have := smz_DatPiece x.xHave; simp only [saDatIn, zDatIn] at hn ⊢; omega)
  have pc0 := K.out.at (i := 0) rfl
  have pc1 := K.out.at (i := 1) rfl
  have pc2 := K.out.at (i := 2) rfl
  have pc3 := K.out.at (i := 3) rfl
  have pc4 := K.out.at (i := 4) rfl
  go_wp2_with fail
  refine (toDatIn_n _ x _ (HF.out.below HB.out) Hn.out).mono ?_
  rintro e w2 ⟨csw2, fw2, rfl, ow2, nw2, bw2⟩
  replace K := Lib.hid (K.out.keep bw2)
  replace HB := Lib.hid (HB.out.trans (bw2.mono HB.out.size))
  clear pc0 pc1 pc2 pc3 pc4
  have O2 := Lib.hid ow2.rd
  have Sw2 := Lib.hid bw2.size
  clear ow2 nw2 bw2
  have Ww2 := Lib.hid K.out.lt
  go_wp2_with fail
  refine (specDatAck_n _ x _ O2.out Hn.out).mono ?_
  rintro e w3 ⟨Wv1, Wf1, rfl, Wo1, Wn, bw3⟩
  have Sw3 := Lib.hid bw3.size
  replace K := Lib.hid (K.out.keep bw3)
  replace HB := Lib.hid (HB.out.trans (bw3.mono HB.out.size))
  clear bw3
  have WN := Lib.hid Wn
  clear Wn
  have W1 := Lib.hid Wo1
  clear Wo1
  clear O2
  have pc0 := K.out.at (i := 0) rfl
  have pc1 := K.out.at (i := 1) rfl
  have pc2 := K.out.at (i := 2) rfl
  have pc3 := K.out.at (i := 3) rfl
  have pc4 := K.out.at (i := 4) rfl
  go_wp2_with fail
  refine (toDatIn_n _ x _ (HF.out.below HB.out) Hn.out).mono ?_
  rintro e w4 ⟨csw4, fw4, rfl, ow4, nw4, bw4⟩
  replace K := Lib.hid (K.out.keep bw4)
  replace W1 := Lib.hid (W1.out.keep (fun b hb => bw4.block b (W1.out.inside b hb)))
  replace HB := Lib.hid (HB.out.trans (bw4.mono HB.out.size))
  clear pc0 pc1 pc2 pc3 pc4
  have XE := Lib.hid ow4
  have XN := Lib.hid nw4
  have Sw4 := Lib.hid bw4.size
  clear nw4 bw4
  obtain ⟨xv2, xv3, xv4, xf2, xf3, xf4, rfl, xo2, xo3, xo4, rfl⟩ := ow4
  obtain ⟨xA2, xc2, rfl⟩ :=  xo2.rd.slice
  clear xo2
  obtain ⟨xA3, xc3, rfl⟩ := OwL.slice xo3
  clear xo3
  obtain ⟨xA4, xc4, rfl⟩ :=  xo4.rd.slice
  clear xo4
  have X := Lib.hid (Blk.new (w := w4) (b := w4.heap.size) #[.int .i64 x.xStreams, .int .i64 x.xCum, .slice xA2 x.xSeen.length xc2, .slice xA3 x.xHave.length xc3, .slice xA4 x.xSsns.length xc4] 87 rfl)
  have bx := (Below.refl w4.heap.size w4).alloc (Nat.le_refl _) (.cells #[.int .i64 x.xStreams, .int .i64 x.xCum, .slice xA2 x.xSeen.length xc2, .slice xA3 x.xHave.length xc3, .slice xA4 x.xSsns.length xc4] 87)
  replace K := Lib.hid (K.out.keep bx)
  replace W1 := Lib.hid (W1.out.keep (fun b hb => bx.block b (W1.out.inside b hb)))
  replace XE := Lib.hid (EDatIn.framed _ _ _ _ _ XE.out (fun b hb => bx.block b (EDatIn.inside _ _ _ _ XE.out b hb)))
  replace HB := Lib.hid (HB.out.trans (bx.mono HB.out.size))
  clear bx
  have Swx := Lib.hid (show w4.heap.size + 1 = (World.alloc w4 (.cells #[.int .i64 x.xStreams, .int .i64 x.xCum, .slice xA2 x.xSeen.length xc2, .slice xA3 x.xHave.length xc3, .slice xA4 x.xSsns.length xc4] 87)).heap.size by simp)
  go_wp2_with fail
  refine (implDatAck_n _ x _ XE.out.rd Hn.out).mono ?_
  rintro e w5 ⟨Gv1, Gf1, rfl, Go1, Gn, bw5⟩
  have Sw5 := Lib.hid bw5.size
  replace K := Lib.hid (K.out.keep bw5)
  replace W1 := Lib.hid (W1.out.keep (fun b hb => bw5.block b (W1.out.inside b hb)))
  replace XE := Lib.hid (EDatIn.framed _ _ _ _ _ XE.out (fun b hb => bw5.block b (EDatIn.inside _ _ _ _ XE.out b hb)))
  replace X := Lib.hid (X.out.keep bw5)
  replace HB := Lib.hid (HB.out.trans (bw5.mono HB.out.size))
  clear bw5
  have GN := Lib.hid Gn
  clear Gn
  have G1 := Lib.hid Go1
  clear Go1
  go_wp2_with fail
  refine (eqFrmGapS_s _ _ (ackGaps x) _ G1.out.rd W1.out.rd BD1.out).mono ?_
  rintro e we1 ⟨rfl, bwe1⟩
  have Swe1 := Lib.hid bwe1.size
  replace K := Lib.hid (K.out.keep bwe1)
  replace W1 := Lib.hid (W1.out.keep (fun b hb => bwe1.block b (W1.out.inside b hb)))
  replace XE := Lib.hid (EDatIn.framed _ _ _ _ _ XE.out (fun b hb => bwe1.block b (EDatIn.inside _ _ _ _ XE.out b hb)))
  replace X := Lib.hid (X.out.keep bwe1)
  replace G1 := Lib.hid (G1.out.keep (fun b hb => bwe1.block b (G1.out.inside b hb)))
  replace HB := Lib.hid (HB.out.trans (bwe1.mono HB.out.size))
  clear bwe1
  have X5 := Lib.hid X.out.drew
  have K5 := Lib.hid K.out.drew
  have XR := Lib.hid (XE.out.rd.below (Below.refl _ _).drew)
  go_wp2_with fail
  go_region_held3 (fun y => y.cell? ⟨w4.heap.size, 0, none⟩ = some (.int .i64 x.xStreams) ∧ y.cell? ⟨w4.heap.size, 1, none⟩ = some (.int .i64 x.xCum) ∧ y.cell? ⟨w4.heap.size, 2, none⟩ = some (.slice xA2 x.xSeen.length xc2) ∧ y.cell? ⟨w4.heap.size, 3, none⟩ = some (.slice xA3 x.xHave.length xc3) ∧ y.cell? ⟨w4.heap.size, 4, none⟩ = some (.slice xA4 x.xSsns.length xc4) ∧ y.cell? ⟨w.heap.size, 0, none⟩ = some (.int .i64 x.xStreams) ∧ y.cell? ⟨w.heap.size, 1, none⟩ = some (.int .i64 x.xCum) ∧ y.cell? ⟨w.heap.size, 2, none⟩ = some (v2) ∧ y.cell? ⟨w.heap.size, 3, none⟩ = some (v3) ∧ y.cell? ⟨w.heap.size, 4, none⟩ = some (v4)) (first | (with_reducible exact scdatAck X5.out K5.out) | (with_reducible exact scdatAck X6.out K6.out) | (with_reducible exact scdatAck X7.out K7.out)) (first | (go_at_call 79; refine (toDatIn_n _ x _ (HF.out.below HB.out.drew) Hn.out).mono ?_; rintro e w6 ⟨cs6, f6, rfl, o6, n6, b6⟩; have O6 := Lib.hid o6.rd; have O46 := Lib.hid (XR.out.below b6); have X6 := Lib.hid (X5.out.keep b6); have K6 := Lib.hid (K5.out.keep b6); have B6 := Lib.hid b6; clear o6 n6 b6) | (go_at_call 82; refine (eqDatIn_s _ _ x _ O46.out O6.out Hn.out).mono ?_; rintro e w7 ⟨rfl, b7⟩; have X7 := Lib.hid (X6.out.keep b7); have K7 := Lib.hid (K6.out.keep b7); have B7 := Lib.hid b7; clear b7))
  have bb : Below we1.heap.size we1 w7 := ((Below.refl we1.heap.size we1).drew.trans B6.out).trans (B7.out.mono (show we1.heap.size ≤ w6.heap.size from B6.out.size))
  have Sbb := Lib.hid bb.size
  replace K := Lib.hid (K.out.keep bb)
  replace W1 := Lib.hid (W1.out.keep (fun b hb => bb.block b (W1.out.inside b hb)))
  replace XE := Lib.hid (EDatIn.framed _ _ _ _ _ XE.out (fun b hb => bb.block b (EDatIn.inside _ _ _ _ XE.out b hb)))
  replace X := Lib.hid (X.out.keep bb)
  replace G1 := Lib.hid (G1.out.keep (fun b hb => bb.block b (G1.out.inside b hb)))
  replace HB := Lib.hid (HB.out.trans (bb.mono HB.out.size))
  clear bb X5 K5 XR X6 K6 X7 K7 B6 B7 O6 O46
  have px0 := X.out.at (i := 0) rfl
  have px1 := X.out.at (i := 1) rfl
  have px2 := X.out.at (i := 2) rfl
  have px3 := X.out.at (i := 3) rfl
  have px4 := X.out.at (i := 4) rfl
  go_wp2_with fail
  refine (markDatIn_m (xf2 ++ xf3 ++ xf4) _ 1 x _ XE.out XN.out.1 (by omega) (by have := BX.out; omega)).mono ?_
  rintro e w8 ⟨rfl, o8, r8⟩
  have Sw8 := Lib.hid r8.size
  replace K := Lib.hid (K.out.frl r8 (XN.out.notin (by have := Sw2.out; have := Ww2.out; have := Sw3.out; have := Sw4.out; have := Swx.out; have := Sw5.out; have := Swe1.out; have := Sbb.out; have := Sw8.out; first | omega | (simp; omega))))
  replace W1 := Lib.hid (W1.out.keep (fun b hb => r8.block b (W1.out.inside b hb) ((WN.out.far XN.out (by have := Sw2.out; have := Ww2.out; have := Sw3.out; have := Sw4.out; have := Swx.out; have := Sw5.out; have := Swe1.out; have := Sbb.out; have := Sw8.out; first | omega | (simp; omega))) b hb)))
  replace X := Lib.hid (X.out.frl r8 (XN.out.notin (by have := Sw2.out; have := Ww2.out; have := Sw3.out; have := Sw4.out; have := Swx.out; have := Sw5.out; have := Swe1.out; have := Sbb.out; have := Sw8.out; first | omega | (simp; omega))))
  replace G1 := Lib.hid (G1.out.keep (fun b hb => r8.block b (G1.out.inside b hb) ((GN.out.far XN.out (by have := Sw2.out; have := Ww2.out; have := Sw3.out; have := Sw4.out; have := Swx.out; have := Sw5.out; have := Swe1.out; have := Sbb.out; have := Sw8.out; first | omega | (simp; omega))) b hb)))
  replace HB := Lib.hid (HB.out.trans (r8.belowNw XN.out (by have := Sw2.out; have := Ww2.out; have := Sw3.out; have := Sw4.out; have := Swx.out; have := Sw5.out; have := Swe1.out; have := Sbb.out; have := Sw8.out; first | omega | (simp; omega)) HB.out.size))
  clear px0 px1 px2 px3 px4
  clear o8 r8 X XE
  generalize hsx : saDatIn x = sx at *
  clear hsx
  go_wp2_with fail
  refine (eqFrmGapS_s _ _ (ackGaps x) _ G1.out.rd W1.out.rd BD1.out).mono ?_
  rintro e we2 ⟨rfl, bwe2⟩
  have Swe2 := Lib.hid bwe2.size
  replace K := Lib.hid (K.out.keep bwe2)
  replace W1 := Lib.hid (W1.out.keep (fun b hb => bwe2.block b (W1.out.inside b hb)))
  replace G1 := Lib.hid (G1.out.keep (fun b hb => bwe2.block b (G1.out.inside b hb)))
  replace HB := Lib.hid (HB.out.trans (bwe2.mono HB.out.size))
  clear bwe2
  go_wp2_with fail
  refine (markFrmGapS_m Gf1 _ (1) (ackGaps x) _ G1.out GN.out.1 (by omega) (by have := BM1.out; omega)).mono ?_
  rintro e wm1 ⟨rfl, owm1, rwm1⟩
  have Swm1 := Lib.hid rwm1.size
  replace K := Lib.hid (K.out.frl rwm1 (GN.out.notin (by have := Sw2.out; have := Ww2.out; have := Sw3.out; have := Sw4.out; have := Swx.out; have := Sw5.out; have := Swe1.out; have := Sbb.out; have := Sw8.out; have := Swe2.out; have := Swm1.out; first | omega | (simp; omega))))
  replace W1 := Lib.hid (W1.out.keep (fun b hb => rwm1.block b (W1.out.inside b hb) ((WN.out.far GN.out (by have := Sw2.out; have := Ww2.out; have := Sw3.out; have := Sw4.out; have := Swx.out; have := Sw5.out; have := Swe1.out; have := Sbb.out; have := Sw8.out; have := Swe2.out; have := Swm1.out; first | omega | (simp; omega))) b hb)))
  replace HB := Lib.hid (HB.out.trans (rwm1.belowNw GN.out (by have := Sw2.out; have := Ww2.out; have := Sw3.out; have := Sw4.out; have := Swx.out; have := Sw5.out; have := Swe1.out; have := Sbb.out; have := Sw8.out; have := Swe2.out; have := Swm1.out; first | omega | (simp; omega)) HB.out.size))
  replace G1 := Lib.hid owm1
  clear owm1 rwm1
  go_wp2_with fail
  refine (heldFrmGapS_h _ (1) (ackGaps x) _ G1.out.rd (by omega) (by have := BM1.out; omega)).mono ?_
  rintro e wh1 ⟨rfl, bwh1⟩
  have Swh1 := Lib.hid bwh1.size
  replace K := Lib.hid (K.out.keep bwh1)
  replace W1 := Lib.hid (W1.out.keep (fun b hb => bwh1.block b (W1.out.inside b hb)))
  replace G1 := Lib.hid (G1.out.keep (fun b hb => bwh1.block b (G1.out.inside b hb)))
  replace HB := Lib.hid (HB.out.trans (bwh1.mono HB.out.size))
  clear bwh1
  have pc0 := K.out.at (i := 0) rfl
  have pc1 := K.out.at (i := 1) rfl
  have pc2 := K.out.at (i := 2) rfl
  have pc3 := K.out.at (i := 3) rfl
  have pc4 := K.out.at (i := 4) rfl
  go_wp2_with fail
  refine (toDatIn_n _ x _ (HF.out.below HB.out) Hn.out).mono ?_
  rintro e w9 ⟨csw9, fw9, rfl, ow9, nw9, bw9⟩
  replace K := Lib.hid (K.out.keep bw9)
  replace W1 := Lib.hid (W1.out.keep (fun b hb => bw9.block b (W1.out.inside b hb)))
  replace G1 := Lib.hid (G1.out.keep (fun b hb => bw9.block b (G1.out.inside b hb)))
  replace HB := Lib.hid (HB.out.trans (bw9.mono HB.out.size))
  clear pc0 pc1 pc2 pc3 pc4
  have O9 := Lib.hid ow9.rd
  have Sw9 := Lib.hid bw9.size
  clear ow9 nw9 bw9
  go_wp2_with fail
  refine (implDatAck_n _ x _ O9.out Hn.out).mono ?_
  rintro e w10 ⟨Hv1, Hf1, rfl, Ho1, Hn, bw10⟩
  have Sw10 := Lib.hid bw10.size
  replace K := Lib.hid (K.out.keep bw10)
  replace W1 := Lib.hid (W1.out.keep (fun b hb => bw10.block b (W1.out.inside b hb)))
  replace G1 := Lib.hid (G1.out.keep (fun b hb => bw10.block b (G1.out.inside b hb)))
  replace HB := Lib.hid (HB.out.trans (bw10.mono HB.out.size))
  clear bw10
  have HN := Lib.hid Hn
  clear Hn
  have H1 := Lib.hid Ho1
  clear Ho1
  clear O9
  go_wp2_with fail
  refine (eqFrmGapS_s _ _ (ackGaps x) _ H1.out.rd W1.out.rd BD1.out).mono ?_
  rintro e we3 ⟨rfl, bwe3⟩
  have Swe3 := Lib.hid bwe3.size
  replace K := Lib.hid (K.out.keep bwe3)
  replace W1 := Lib.hid (W1.out.keep (fun b hb => bwe3.block b (W1.out.inside b hb)))
  replace G1 := Lib.hid (G1.out.keep (fun b hb => bwe3.block b (G1.out.inside b hb)))
  replace H1 := Lib.hid (H1.out.keep (fun b hb => bwe3.block b (H1.out.inside b hb)))
  replace HB := Lib.hid (HB.out.trans (bwe3.mono HB.out.size))
  clear bwe3
  go_wp2_with fail
  refine (heldFrmGapS_h _ (1) (ackGaps x) _ G1.out.rd (by omega) (by have := BM1.out; omega)).mono ?_
  rintro e wh2 ⟨rfl, bwh2⟩
  have Swh2 := Lib.hid bwh2.size
  replace K := Lib.hid (K.out.keep bwh2)
  replace W1 := Lib.hid (W1.out.keep (fun b hb => bwh2.block b (W1.out.inside b hb)))
  replace G1 := Lib.hid (G1.out.keep (fun b hb => bwh2.block b (G1.out.inside b hb)))
  replace H1 := Lib.hid (H1.out.keep (fun b hb => bwh2.block b (H1.out.inside b hb)))
  replace HB := Lib.hid (HB.out.trans (bwh2.mono HB.out.size))
  clear bwh2
  go_wp2
  go_ret
  exact ⟨rfl, HB.out⟩
set_option maxRecDepth 100000 in
theorem datAck_lifted (os : Os) (started : os.Started) (H : Type) (enc : TypeId × Value → H) :
    ReturnsInHanded {} Try.checked os 13 .any (Rows.fnExactDatAckSpec.pre6 enc Try.prog Try.f13 Rows.fnExactDatAckRow.domain false) (Rows.fnExactDatAckSpec.post enc Try.prog Try.f13 false true false false) := by
  refine returnsInHanded_of_change (C := Try.checked) ownKnob_none started (by kernel_rfl) Try.func13
    (ChangeSpec.witness6 (enc := enc) (C := Try.checked) false ⟨#[], #[.agg #[.int .i64 0, .int .i64 0, .slice none 0 0, .slice none 0 0, .slice none 0 0]], []⟩ 8 (by kernel_rfl) (by kernel_rfl) (by kernel_rfl) (by kernel_rfl)) ?_
  intro W base args ds gs before hval hW _ _
  have hW' := hW
  obtain ⟨p, q, hA, _⟩ := hW
  have hA' : DataW.TrodAll enc Try.prog W 0 (fun _ => true) true [115] args.toList ds p := hA
  obtain ⟨v0, vs0, d0, ds0, p0, q0, hargs, rfl, rfl, h0, r0⟩ := trodAll_cons hA'
  obtain ⟨rfl, rfl, rfl⟩ := trodAll_nil r0
  obtain rfl : args = #[v0] := by cases args; simp_all
  obtain ⟨cs, rfl, hcs⟩ := okWide_struct Try.underlying115 (hval 0 115 v0 rfl rfl)
  rw [cells_DatIn] at hcs
  obtain ⟨fuel, hf⟩ := h0
  simp only [Value.cells] at hf
  obtain ⟨x, hx⟩ := read_DatIn _ _ _ (by simpa using hcs) hf
  refine (lawDatAck cs.toList x W hx).mono fun e W' ⟨he, hb⟩ => ?_
  subst he
  exact ⟨_, rfl, law_post (tb := 4) laidOut (by decide +kernel) rfl rfl Try.underlying4 (by rintro _ rfl; rfl) hW' hb⟩

theorem datAck_proved : Rows.FnExactDatAckSaid :=
  OpenClaim.holds_of_wide 13 Try.f13 rfl rfl rfl rfl rfl rfl rfl ⟨rfl, rfl, rfl, rfl, rfl⟩ rfl rfl rfl rfl rfl (by kernel_rfl) Try.func13 datAck_closed
    (of_decide_eq_true (by kernel_rfl)) (by unfold Func.isWrapper; first | (rw [if_pos (by decide +kernel)]; kernel_rfl) | (rw [if_neg (by decide +kernel)]; exact ⟨rfl, rfl⟩))
    (fun os started H enc _ => datAck_lifted os started H enc)
#print axioms datAck_proved
end Go.Proofs.Ythdjjgbjemaabaa
