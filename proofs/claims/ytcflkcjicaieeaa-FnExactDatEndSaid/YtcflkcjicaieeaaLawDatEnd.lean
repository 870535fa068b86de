/-
  DatEnd of the program answers at every argument as the model's DatEnd, writes nothing into its argument, and its answer is memory of its own (Rows.FnExactDatEndSaid). No condition. (Written by wip/tools/genlawmem.py.)
-/
import Derived.Test.YtcflkcjicaieeaaEndF
import Derived.Test.YtcflkcjicaieeaaClDatEnd
import Derived.Test.YtcflkcjicaieeaaMkDatOut
import Derived.Test.YtcflkcjicaieeaaMkDatUnit
import Derived.Test.YtcflkcjicaieeaaAppI
import Derived.Test.YtcflkcjicaieeaaRow
import Derived.ChangeSame
import Derived.Deep.RegionHeld3
namespace Go.Proofs.Ytcflkcjicaieeaa
open Go.ChangeShapes Go.WideShapes Go.ChangeAt Go.RowKit
set_option linter.unusedVariables false
set_option linter.unusedSimpArgs false

theorem scdatEnd {x : World} {b c : Nat} {p0 p1 p2 p3 p4 q0 q1 q2 q3 q4 : Value} (h : Blk x b [p0, p1, p2, p3, p4]) (k : Blk x c [q0, q1, q2, q3, q4]) :
    x.cell? ⟨b, 0, none⟩ = some p0 ∧ x.cell? ⟨b, 1, none⟩ = some p1 ∧ x.cell? ⟨b, 2, none⟩ = some p2 ∧ x.cell? ⟨b, 3, none⟩ = some p3 ∧ x.cell? ⟨b, 4, none⟩ = some p4 ∧ x.cell? ⟨c, 0, none⟩ = some q0 ∧ x.cell? ⟨c, 1, none⟩ = some q1 ∧ x.cell? ⟨c, 2, none⟩ = some q2 ∧ x.cell? ⟨c, 3, none⟩ = some q3 ∧ x.cell? ⟨c, 4, none⟩ = some q4 :=
  ⟨h.at rfl, h.at rfl, h.at rfl, h.at rfl, h.at rfl, k.at rfl, k.at rfl, k.at rfl, k.at rfl, k.at rfl⟩
theorem smz_DatSent (xs : List DDatSent) : szL smDatSent xs ≤ 64 * (zL zDatSent xs) := by
  induction xs with
  | nil => simp [szL]
  | cons x xs ih =>
    have h1 : smDatSent x ≤ 64 * (1 + zDatSent x) := by
      simp only [smDatSent, zDatSent, zDatPiece]; omega
    simp only [zL, szL, List.length_cons] at ih ⊢; omega
theorem smz_DatUnit (xs : List DDatUnit) : szL smDatUnit xs ≤ 64 * (zL zDatUnit xs) := by
  induction xs with
  | nil => simp [szL]
  | cons x xs ih =>
    have h1 : smDatUnit x ≤ 64 * (1 + zDatUnit x) := by
      simp only [smDatUnit, zDatUnit]; omega
    simp only [zL, szL, List.length_cons] at ih ⊢; omega
set_option maxRecDepth 100000 in
set_option maxHeartbeats 8000000 in
theorem lawDatEnd (cs : List Value) (x : DDatOut) (w : World) (h : FDatOut w cs x) : Calls Try.prog 9 #[.agg cs.toArray] w fun e w' => e = .returned (.bool true) ∧ Below w.heap.size w w' := by
  have HF := Lib.hid h
  obtain ⟨v2, v3, v4, rfl, h2, h3, h4⟩ := h
  have K := Lib.hid (Blk.new (w := w) (b := w.heap.size) #[.int .i64 x.xStreams, .int .i64 x.xNext, v2, v3, v4] 78 rfl)
  have HB := Lib.hid ((Below.refl w.heap.size w).alloc (Nat.le_refl _) (.cells #[.int .i64 x.xStreams, .int .i64 x.xNext, v2, v3, v4] 78))
  clear h2 h3 h4
  go_enter Try.func9, Try.ntmps9
  go_wp2_with fail
  refine (szDatOut_z _ x _ _ (HF.out.below HB.out) ⟨by omega, by omega⟩).mono ?_
  rintro e w1 ⟨rfl, b1⟩
  replace K := Lib.hid (K.out.keep b1)
  replace HB := Lib.hid (HB.out.trans (b1.mono HB.out.size))
  clear b1
  have hr := szR_cases 1048576 (zDatOut x) (by omega)
  generalize szR 1048576 (zDatOut x) = r at *
  rcases hr with ⟨rfl, _⟩ | ⟨hr, _, ht⟩
  · go_wp2
    go_ret
    exact ⟨rfl, HB.out⟩
  have Hn := Lib.hid (show zDatOut x ≤ 1048576 by omega)
  clear ht
  obtain ⟨bd0, bd1⟩ := datEnd_bd x Hn.out
  have BD0 := Lib.hid bd0
  have BM0 := Lib.hid (show szL smDatUnit (endUnits x) ≤ 67108864 by have := smz_DatUnit (endUnits x); omega)
  clear bd0
  have BD1 := Lib.hid bd1
  have BM1 := Lib.hid (show (endMs x).length ≤ 67108864 by omega)
  clear bd1
  have BX := Lib.hid (show saDatOut x ≤ 67108864 by have hn := Hn.out; have := smz_DatSent x.xFlight; have := smz_DatUnit x.xQueue; simp only [saDatOut, zDatOut] at hn ⊢; omega)
  have pc0 := K.out.at (i := 0) rfl
  have pc1 := K.out.at (i := 1) rfl
  have pc2 := K.out.at (i := 2) rfl
  have pc3 := K.out.at (i := 3) rfl
  have pc4 := K.out.at (i := 4) rfl
  go_wp2_with fail
  refine (toDatOut_n _ x _ (HF.out.below HB.out) Hn.out).mono ?_
  rintro e w2 ⟨csw2, fw2, rfl, ow2, nw2, bw2⟩
  replace K := Lib.hid (K.out.keep bw2)
  replace HB := Lib.hid (HB.out.trans (bw2.mono HB.out.size))
  clear pc0 pc1 pc2 pc3 pc4
  have O2 := Lib.hid ow2.rd
  have Sw2 := Lib.hid bw2.size
  clear ow2 nw2 bw2
  have Ww2 := Lib.hid K.out.lt
  go_wp2_with fail
  refine (specDatEnd_n _ x _ O2.out Hn.out).mono ?_
  rintro e w3 ⟨Wv0, Wv1, Wf0, Wf1, rfl, Wo0, Wo1, Wn, bw3⟩
  have Sw3 := Lib.hid bw3.size
  replace K := Lib.hid (K.out.keep bw3)
  replace HB := Lib.hid (HB.out.trans (bw3.mono HB.out.size))
  clear bw3
  have WN := Lib.hid Wn
  clear Wn
  have W0 := Lib.hid Wo0
  clear Wo0
  have W1 := Lib.hid Wo1
  clear Wo1
  clear O2
  have pc0 := K.out.at (i := 0) rfl
  have pc1 := K.out.at (i := 1) rfl
  have pc2 := K.out.at (i := 2) rfl
  have pc3 := K.out.at (i := 3) rfl
  have pc4 := K.out.at (i := 4) rfl
  go_wp2_with fail
  refine (toDatOut_n _ x _ (HF.out.below HB.out) Hn.out).mono ?_
  rintro e w4 ⟨csw4, fw4, rfl, ow4, nw4, bw4⟩
  replace K := Lib.hid (K.out.keep bw4)
  replace W0 := Lib.hid (W0.out.keep (fun b hb => bw4.block b (W0.out.inside b hb)))
  replace W1 := Lib.hid (W1.out.keep (fun b hb => bw4.block b (W1.out.inside b hb)))
  replace HB := Lib.hid (HB.out.trans (bw4.mono HB.out.size))
  clear pc0 pc1 pc2 pc3 pc4
  have XE := Lib.hid ow4
  have XN := Lib.hid nw4
  have Sw4 := Lib.hid bw4.size
  clear nw4 bw4
  obtain ⟨xv2, xv3, xv4, xf2, xf3, xf4, rfl, xo2, xo3, xo4, rfl⟩ := ow4
  obtain ⟨xA2, xc2, rfl⟩ := OwL.slice xo2
  clear xo2
  obtain ⟨xA3, xc3, rfl⟩ := OwL.slice xo3
  clear xo3
  obtain ⟨xA4, xc4, rfl⟩ :=  xo4.rd.slice
  clear xo4
  have X := Lib.hid (Blk.new (w := w4) (b := w4.heap.size) #[.int .i64 x.xStreams, .int .i64 x.xNext, .slice xA2 x.xFlight.length xc2, .slice xA3 x.xQueue.length xc3, .slice xA4 x.xSsns.length xc4] 85 rfl)
  have bx := (Below.refl w4.heap.size w4).alloc (Nat.le_refl _) (.cells #[.int .i64 x.xStreams, .int .i64 x.xNext, .slice xA2 x.xFlight.length xc2, .slice xA3 x.xQueue.length xc3, .slice xA4 x.xSsns.length xc4] 85)
  replace K := Lib.hid (K.out.keep bx)
  replace W0 := Lib.hid (W0.out.keep (fun b hb => bx.block b (W0.out.inside b hb)))
  replace W1 := Lib.hid (W1.out.keep (fun b hb => bx.block b (W1.out.inside b hb)))
  replace XE := Lib.hid (EDatOut.framed _ _ _ _ _ XE.out (fun b hb => bx.block b (EDatOut.inside _ _ _ _ XE.out b hb)))
  replace HB := Lib.hid (HB.out.trans (bx.mono HB.out.size))
  clear bx
  have Swx := Lib.hid (show w4.heap.size + 1 = (World.alloc w4 (.cells #[.int .i64 x.xStreams, .int .i64 x.xNext, .slice xA2 x.xFlight.length xc2, .slice xA3 x.xQueue.length xc3, .slice xA4 x.xSsns.length xc4] 85)).heap.size by simp)
  go_wp2_with fail
  refine (implDatEnd_n _ x _ XE.out.rd Hn.out).mono ?_
  rintro e w5 ⟨Gv0, Gv1, Gf0, Gf1, rfl, Go0, Go1, Gn, bw5⟩
  have Sw5 := Lib.hid bw5.size
  replace K := Lib.hid (K.out.keep bw5)
  replace W0 := Lib.hid (W0.out.keep (fun b hb => bw5.block b (W0.out.inside b hb)))
  replace W1 := Lib.hid (W1.out.keep (fun b hb => bw5.block b (W1.out.inside b hb)))
  replace XE := Lib.hid (EDatOut.framed _ _ _ _ _ XE.out (fun b hb => bw5.block b (EDatOut.inside _ _ _ _ XE.out b hb)))
  replace X := Lib.hid (X.out.keep bw5)
  replace HB := Lib.hid (HB.out.trans (bw5.mono HB.out.size))
  clear bw5
  have GN := Lib.hid Gn
  clear Gn
  have G0 := Lib.hid Go0
  clear Go0
  have G1 := Lib.hid Go1
  clear Go1
  go_wp2_with fail
  refine (eqDatUnitS_s _ _ (endUnits x) _ G0.out.rd W0.out.rd BD0.out).mono ?_
  rintro e we1 ⟨rfl, bwe1⟩
  have Swe1 := Lib.hid bwe1.size
  replace K := Lib.hid (K.out.keep bwe1)
  replace W0 := Lib.hid (W0.out.keep (fun b hb => bwe1.block b (W0.out.inside b hb)))
  replace W1 := Lib.hid (W1.out.keep (fun b hb => bwe1.block b (W1.out.inside b hb)))
  replace XE := Lib.hid (EDatOut.framed _ _ _ _ _ XE.out (fun b hb => bwe1.block b (EDatOut.inside _ _ _ _ XE.out b hb)))
  replace X := Lib.hid (X.out.keep bwe1)
  replace G0 := Lib.hid (G0.out.keep (fun b hb => bwe1.block b (G0.out.inside b hb)))
  replace G1 := Lib.hid (G1.out.keep (fun b hb => bwe1.block b (G1.out.inside b hb)))
  replace HB := Lib.hid (HB.out.trans (bwe1.mono HB.out.size))
  clear bwe1
  go_wp2_with fail
  refine (eqIntS_s _ _ (endMs x) _ G1.out.rd W1.out.rd BD1.out).mono ?_
  rintro e we2 ⟨rfl, bwe2⟩
  have Swe2 := Lib.hid bwe2.size
  replace K := Lib.hid (K.out.keep bwe2)
  replace W0 := Lib.hid (W0.out.keep (fun b hb => bwe2.block b (W0.out.inside b hb)))
  replace W1 := Lib.hid (W1.out.keep (fun b hb => bwe2.block b (W1.out.inside b hb)))
  replace XE := Lib.hid (EDatOut.framed _ _ _ _ _ XE.out (fun b hb => bwe2.block b (EDatOut.inside _ _ _ _ XE.out b hb)))
  replace X := Lib.hid (X.out.keep bwe2)
  replace G0 := Lib.hid (G0.out.keep (fun b hb => bwe2.block b (G0.out.inside b hb)))
  replace G1 := Lib.hid (G1.out.keep (fun b hb => bwe2.block b (G1.out.inside b hb)))
  replace HB := Lib.hid (HB.out.trans (bwe2.mono HB.out.size))
  clear bwe2
  have X5 := Lib.hid X.out.drew
  have K5 := Lib.hid K.out.drew
  have XR := Lib.hid (XE.out.rd.below (Below.refl _ _).drew)
  go_wp2_with fail
  go_region_held3 (fun y => y.cell? ⟨w4.heap.size, 0, none⟩ = some (.int .i64 x.xStreams) ∧ y.cell? ⟨w4.heap.size, 1, none⟩ = some (.int .i64 x.xNext) ∧ y.cell? ⟨w4.heap.size, 2, none⟩ = some (.slice xA2 x.xFlight.length xc2) ∧ y.cell? ⟨w4.heap.size, 3, none⟩ = some (.slice xA3 x.xQueue.length xc3) ∧ y.cell? ⟨w4.heap.size, 4, none⟩ = some (.slice xA4 x.xSsns.length xc4) ∧ y.cell? ⟨w.heap.size, 0, none⟩ = some (.int .i64 x.xStreams) ∧ y.cell? ⟨w.heap.size, 1, none⟩ = some (.int .i64 x.xNext) ∧ y.cell? ⟨w.heap.size, 2, none⟩ = some (v2) ∧ y.cell? ⟨w.heap.size, 3, none⟩ = some (v3) ∧ y.cell? ⟨w.heap.size, 4, none⟩ = some (v4)) (first | (with_reducible exact scdatEnd X5.out K5.out) | (with_reducible exact scdatEnd X6.out K6.out) | (with_reducible exact scdatEnd X7.out K7.out)) (first | (go_at_call 51; refine (toDatOut_n _ x _ (HF.out.below HB.out.drew) Hn.out).mono ?_; rintro e w6 ⟨cs6, f6, rfl, o6, n6, b6⟩; have O6 := Lib.hid o6.rd; have O46 := Lib.hid (XR.out.below b6); have X6 := Lib.hid (X5.out.keep b6); have K6 := Lib.hid (K5.out.keep b6); have B6 := Lib.hid b6; clear o6 n6 b6) | (go_at_call 55; refine (eqDatOut_s _ _ x _ O46.out O6.out Hn.out).mono ?_; rintro e w7 ⟨rfl, b7⟩; have X7 := Lib.hid (X6.out.keep b7); have K7 := Lib.hid (K6.out.keep b7); have B7 := Lib.hid b7; clear b7))
  have bb : Below we2.heap.size we2 w7 := ((Below.refl we2.heap.size we2).drew.trans B6.out).trans (B7.out.mono (show we2.heap.size ≤ w6.heap.size from B6.out.size))
  have Sbb := Lib.hid bb.size
  replace K := Lib.hid (K.out.keep bb)
  replace W0 := Lib.hid (W0.out.keep (fun b hb => bb.block b (W0.out.inside b hb)))
  replace W1 := Lib.hid (W1.out.keep (fun b hb => bb.block b (W1.out.inside b hb)))
  replace XE := Lib.hid (EDatOut.framed _ _ _ _ _ XE.out (fun b hb => bb.block b (EDatOut.inside _ _ _ _ XE.out b hb)))
  replace X := Lib.hid (X.out.keep bb)
  replace G0 := Lib.hid (G0.out.keep (fun b hb => bb.block b (G0.out.inside b hb)))
  replace G1 := Lib.hid (G1.out.keep (fun b hb => bb.block b (G1.out.inside b hb)))
  replace HB := Lib.hid (HB.out.trans (bb.mono HB.out.size))
  clear bb X5 K5 XR X6 K6 X7 K7 B6 B7 O6 O46
  have px0 := X.out.at (i := 0) rfl
  have px1 := X.out.at (i := 1) rfl
  have px2 := X.out.at (i := 2) rfl
  have px3 := X.out.at (i := 3) rfl
  have px4 := X.out.at (i := 4) rfl
  go_wp2_with fail
  refine (markDatOut_m (xf2 ++ xf3 ++ xf4) _ 1 x _ XE.out XN.out.1 (by omega) (by have := BX.out; omega)).mono ?_
  rintro e w8 ⟨rfl, o8, r8⟩
  have Sw8 := Lib.hid r8.size
  replace K := Lib.hid (K.out.frl r8 (XN.out.notin (by have := Sw2.out; have := Ww2.out; have := Sw3.out; have := Sw4.out; have := Swx.out; have := Sw5.out; have := Swe1.out; have := Swe2.out; have := Sbb.out; have := Sw8.out; first | omega | (simp; omega))))
  replace W0 := Lib.hid (W0.out.keep (fun b hb => r8.block b (W0.out.inside b hb) ((WN.out.left.far XN.out (by have := Sw2.out; have := Ww2.out; have := Sw3.out; have := Sw4.out; have := Swx.out; have := Sw5.out; have := Swe1.out; have := Swe2.out; have := Sbb.out; have := Sw8.out; first | omega | (simp; omega))) b hb)))
  replace W1 := Lib.hid (W1.out.keep (fun b hb => r8.block b (W1.out.inside b hb) ((WN.out.right.far XN.out (by have := Sw2.out; have := Ww2.out; have := Sw3.out; have := Sw4.out; have := Swx.out; have := Sw5.out; have := Swe1.out; have := Swe2.out; have := Sbb.out; have := Sw8.out; first | omega | (simp; omega))) b hb)))
  replace X := Lib.hid (X.out.frl r8 (XN.out.notin (by have := Sw2.out; have := Ww2.out; have := Sw3.out; have := Sw4.out; have := Swx.out; have := Sw5.out; have := Swe1.out; have := Swe2.out; have := Sbb.out; have := Sw8.out; first | omega | (simp; omega))))
  replace G0 := Lib.hid (G0.out.keep (fun b hb => r8.block b (G0.out.inside b hb) ((GN.out.left.far XN.out (by have := Sw2.out; have := Ww2.out; have := Sw3.out; have := Sw4.out; have := Swx.out; have := Sw5.out; have := Swe1.out; have := Swe2.out; have := Sbb.out; have := Sw8.out; first | omega | (simp; omega))) b hb)))
  replace G1 := Lib.hid (G1.out.keep (fun b hb => r8.block b (G1.out.inside b hb) ((GN.out.right.far XN.out (by have := Sw2.out; have := Ww2.out; have := Sw3.out; have := Sw4.out; have := Swx.out; have := Sw5.out; have := Swe1.out; have := Swe2.out; have := Sbb.out; have := Sw8.out; first | omega | (simp; omega))) b hb)))
  replace HB := Lib.hid (HB.out.trans (r8.belowNw XN.out (by have := Sw2.out; have := Ww2.out; have := Sw3.out; have := Sw4.out; have := Swx.out; have := Sw5.out; have := Swe1.out; have := Swe2.out; have := Sbb.out; have := Sw8.out; first | omega | (simp; omega)) HB.out.size))
  clear px0 px1 px2 px3 px4
  clear o8 r8 X XE
  generalize hsx : saDatOut x = sx at *
  clear hsx
  go_wp2_with fail
  refine (eqDatUnitS_s _ _ (endUnits x) _ G0.out.rd W0.out.rd BD0.out).mono ?_
  rintro e we3 ⟨rfl, bwe3⟩
  have Swe3 := Lib.hid bwe3.size
  replace K := Lib.hid (K.out.keep bwe3)
  replace W0 := Lib.hid (W0.out.keep (fun b hb => bwe3.block b (W0.out.inside b hb)))
  replace W1 := Lib.hid (W1.out.keep (fun b hb => bwe3.block b (W1.out.inside b hb)))
  replace G0 := Lib.hid (G0.out.keep (fun b hb => bwe3.block b (G0.out.inside b hb)))
  replace G1 := Lib.hid (G1.out.keep (fun b hb => bwe3.block b (G1.out.inside b hb)))
  replace HB := Lib.hid (HB.out.trans (bwe3.mono HB.out.size))
  clear bwe3
  go_wp2_with fail
  refine (eqIntS_s _ _ (endMs x) _ G1.out.rd W1.out.rd BD1.out).mono ?_
  rintro e we4 ⟨rfl, bwe4⟩
  have Swe4 := Lib.hid bwe4.size
  replace K := Lib.hid (K.out.keep bwe4)
  replace W0 := Lib.hid (W0.out.keep (fun b hb => bwe4.block b (W0.out.inside b hb)))
  replace W1 := Lib.hid (W1.out.keep (fun b hb => bwe4.block b (W1.out.inside b hb)))
  replace G0 := Lib.hid (G0.out.keep (fun b hb => bwe4.block b (G0.out.inside b hb)))
  replace G1 := Lib.hid (G1.out.keep (fun b hb => bwe4.block b (G1.out.inside b hb)))
  replace HB := Lib.hid (HB.out.trans (bwe4.mono HB.out.size))
  clear bwe4
  go_wp2_with fail
  refine (markDatUnitS_m Gf0 _ (1) (endUnits x) _ G0.out GN.out.left.1 (by omega) (by have := BM0.out; have := BM1.out; omega)).mono ?_
  rintro e wm0 ⟨rfl, owm0, rwm0⟩
  have Swm0 := Lib.hid rwm0.size
  replace K := Lib.hid (K.out.frl rwm0 (GN.out.left.notin (by have := Sw2.out; have := Ww2.out; have := Sw3.out; have := Sw4.out; have := Swx.out; have := Sw5.out; have := Swe1.out; have := Swe2.out; have := Sbb.out; have := Sw8.out; have := Swe3.out; have := Swe4.out; have := Swm0.out; first | omega | (simp; omega))))
  replace W0 := Lib.hid (W0.out.keep (fun b hb => rwm0.block b (W0.out.inside b hb) ((WN.out.left.far GN.out.left (by have := Sw2.out; have := Ww2.out; have := Sw3.out; have := Sw4.out; have := Swx.out; have := Sw5.out; have := Swe1.out; have := Swe2.out; have := Sbb.out; have := Sw8.out; have := Swe3.out; have := Swe4.out; have := Swm0.out; first | omega | (simp; omega))) b hb)))
  replace W1 := Lib.hid (W1.out.keep (fun b hb => rwm0.block b (W1.out.inside b hb) ((WN.out.right.far GN.out.left (by have := Sw2.out; have := Ww2.out; have := Sw3.out; have := Sw4.out; have := Swx.out; have := Sw5.out; have := Swe1.out; have := Swe2.out; have := Sbb.out; have := Sw8.out; have := Swe3.out; have := Swe4.out; have := Swm0.out; first | omega | (simp; omega))) b hb)))
  replace G1 := Lib.hid (G1.out.keep (fun b hb => rwm0.block b (G1.out.inside b hb) ((show ∀ b ∈ Gf1, b ∉ Gf0 by have h1 := GN.out.1; intro b hb hc; simp only [List.nodup_append, List.mem_append] at h1; grind) b hb)))
  replace HB := Lib.hid (HB.out.trans (rwm0.belowNw GN.out.left (by have := Sw2.out; have := Ww2.out; have := Sw3.out; have := Sw4.out; have := Swx.out; have := Sw5.out; have := Swe1.out; have := Swe2.out; have := Sbb.out; have := Sw8.out; have := Swe3.out; have := Swe4.out; have := Swm0.out; first | omega | (simp; omega)) HB.out.size))
  replace G0 := Lib.hid owm0
  clear owm0 rwm0
  go_wp2_with fail
  refine (markIntS_m Gf1 _ (1 + ((szL smDatUnit (endUnits x) : Nat) : Int)) (endMs x) _ G1.out (by have := BM1.out; omega) ⟨by omega, by have := BM0.out; have := BM1.out; omega⟩).mono ?_
  rintro e wm1 ⟨rfl, owm1, rwm1⟩
  have Swm1 := Lib.hid rwm1.size
  replace K := Lib.hid (K.out.frl rwm1 (GN.out.right.notin (by have := Sw2.out; have := Ww2.out; have := Sw3.out; have := Sw4.out; have := Swx.out; have := Sw5.out; have := Swe1.out; have := Swe2.out; have := Sbb.out; have := Sw8.out; have := Swe3.out; have := Swe4.out; have := Swm0.out; have := Swm1.out; first | omega | (simp; omega))))
  replace W0 := Lib.hid (W0.out.keep (fun b hb => rwm1.block b (W0.out.inside b hb) ((WN.out.left.far GN.out.right (by have := Sw2.out; have := Ww2.out; have := Sw3.out; have := Sw4.out; have := Swx.out; have := Sw5.out; have := Swe1.out; have := Swe2.out; have := Sbb.out; have := Sw8.out; have := Swe3.out; have := Swe4.out; have := Swm0.out; have := Swm1.out; first | omega | (simp; omega))) b hb)))
  replace W1 := Lib.hid (W1.out.keep (fun b hb => rwm1.block b (W1.out.inside b hb) ((WN.out.right.far GN.out.right (by have := Sw2.out; have := Ww2.out; have := Sw3.out; have := Sw4.out; have := Swx.out; have := Sw5.out; have := Swe1.out; have := Swe2.out; have := Sbb.out; have := Sw8.out; have := Swe3.out; have := Swe4.out; have := Swm0.out; have := Swm1.out; first | omega | (simp; omega))) b hb)))
  replace G0 := Lib.hid (G0.out.keep (fun b hb => rwm1.block b (G0.out.inside b hb) ((show ∀ b ∈ Gf0, b ∉ Gf1 by have h1 := GN.out.1; intro b hb hc; simp only [List.nodup_append, List.mem_append] at h1; grind) b hb)))
  replace HB := Lib.hid (HB.out.trans (rwm1.belowNw GN.out.right (by have := Sw2.out; have := Ww2.out; have := Sw3.out; have := Sw4.out; have := Swx.out; have := Sw5.out; have := Swe1.out; have := Swe2.out; have := Sbb.out; have := Sw8.out; have := Swe3.out; have := Swe4.out; have := Swm0.out; have := Swm1.out; first | omega | (simp; omega)) HB.out.size))
  replace G1 := Lib.hid owm1
  clear owm1 rwm1
  go_wp2_with fail
  refine (heldDatUnitS_h _ (1) (endUnits x) _ G0.out.rd (by omega) (by have := BM0.out; have := BM1.out; omega)).mono ?_
  rintro e wh1 ⟨rfl, bwh1⟩
  have Swh1 := Lib.hid bwh1.size
  replace K := Lib.hid (K.out.keep bwh1)
  replace W0 := Lib.hid (W0.out.keep (fun b hb => bwh1.block b (W0.out.inside b hb)))
  replace W1 := Lib.hid (W1.out.keep (fun b hb => bwh1.block b (W1.out.inside b hb)))
  replace G0 := Lib.hid (G0.out.keep (fun b hb => bwh1.block b (G0.out.inside b hb)))
  replace G1 := Lib.hid (G1.out.keep (fun b hb => bwh1.block b (G1.out.inside b hb)))
  replace HB := Lib.hid (HB.out.trans (bwh1.mono HB.out.size))
  clear bwh1
  go_wp2_with fail
  refine (heldIntS_h _ (1 + ((szL smDatUnit (endUnits x) : Nat) : Int)) (endMs x).length _ G1.out.rd (by have := BM0.out; have := BM1.out; omega) ⟨by omega, by have := BM0.out; have := BM1.out; omega⟩).mono ?_
  rintro e wh2 ⟨rfl, bwh2⟩
  have Swh2 := Lib.hid bwh2.size
  replace K := Lib.hid (K.out.keep bwh2)
  replace W0 := Lib.hid (W0.out.keep (fun b hb => bwh2.block b (W0.out.inside b hb)))
  replace W1 := Lib.hid (W1.out.keep (fun b hb => bwh2.block b (W1.out.inside b hb)))
  replace G0 := Lib.hid (G0.out.keep (fun b hb => bwh2.block b (G0.out.inside b hb)))
  replace G1 := Lib.hid (G1.out.keep (fun b hb => bwh2.block b (G1.out.inside b hb)))
  replace HB := Lib.hid (HB.out.trans (bwh2.mono HB.out.size))
  clear bwh2
  have pc0 := K.out.at (i := 0) rfl
  have pc1 := K.out.at (i := 1) rfl
  have pc2 := K.out.at (i := 2) rfl
  have pc3 := K.out.at (i := 3) rfl
  have pc4 := K.out.at (i := 4) rfl
  go_wp2_with fail
  refine (toDatOut_n _ x _ (HF.out.below HB.out) Hn.out).mono ?_
  rintro e w9 ⟨csw9, fw9, rfl, ow9, nw9, bw9⟩
  replace K := Lib.hid (K.out.keep bw9)
  replace W0 := Lib.hid (W0.out.keep (fun b hb => bw9.block b (W0.out.inside b hb)))
  replace W1 := Lib.hid (W1.out.keep (fun b hb => bw9.block b (W1.out.inside b hb)))
  replace G0 := Lib.hid (G0.out.keep (fun b hb => bw9.block b (G0.out.inside b hb)))
  replace G1 := Lib.hid (G1.out.keep (fun b hb => bw9.block b (G1.out.inside b hb)))
  replace HB := Lib.hid (HB.out.trans (bw9.mono HB.out.size))
  clear pc0 pc1 pc2 pc3 pc4
  have O9 := Lib.hid ow9.rd
  have Sw9 := Lib.hid bw9.size
  clear ow9 nw9 bw9
  go_wp2_with fail
  refine (implDatEnd_n _ x _ O9.out Hn.out).mono ?_
  rintro e w10 ⟨Hv0, Hv1, Hf0, Hf1, rfl, Ho0, Ho1, Hn, bw10⟩
  have Sw10 := Lib.hid bw10.size
  replace K := Lib.hid (K.out.keep bw10)
  replace W0 := Lib.hid (W0.out.keep (fun b hb => bw10.block b (W0.out.inside b hb)))
  replace W1 := Lib.hid (W1.out.keep (fun b hb => bw10.block b (W1.out.inside b hb)))
  replace G0 := Lib.hid (G0.out.keep (fun b hb => bw10.block b (G0.out.inside b hb)))
  replace G1 := Lib.hid (G1.out.keep (fun b hb => bw10.block b (G1.out.inside b hb)))
  replace HB := Lib.hid (HB.out.trans (bw10.mono HB.out.size))
  clear bw10
  have HN := Lib.hid Hn
  clear Hn
  have H0 := Lib.hid Ho0
  clear Ho0
  have H1 := Lib.hid Ho1
  clear Ho1
  clear O9
  go_wp2_with fail
  refine (eqDatUnitS_s _ _ (endUnits x) _ H0.out.rd W0.out.rd BD0.out).mono ?_
  rintro e we5 ⟨rfl, bwe5⟩
  have Swe5 := Lib.hid bwe5.size
  replace K := Lib.hid (K.out.keep bwe5)
  replace W0 := Lib.hid (W0.out.keep (fun b hb => bwe5.block b (W0.out.inside b hb)))
  replace W1 := Lib.hid (W1.out.keep (fun b hb => bwe5.block b (W1.out.inside b hb)))
  replace G0 := Lib.hid (G0.out.keep (fun b hb => bwe5.block b (G0.out.inside b hb)))
  replace G1 := Lib.hid (G1.out.keep (fun b hb => bwe5.block b (G1.out.inside b hb)))
  replace H0 := Lib.hid (H0.out.keep (fun b hb => bwe5.block b (H0.out.inside b hb)))
  replace H1 := Lib.hid (H1.out.keep (fun b hb => bwe5.block b (H1.out.inside b hb)))
  replace HB := Lib.hid (HB.out.trans (bwe5.mono HB.out.size))
  clear bwe5
  go_wp2_with fail
  refine (eqIntS_s _ _ (endMs x) _ H1.out.rd W1.out.rd BD1.out).mono ?_
  rintro e we6 ⟨rfl, bwe6⟩
  have Swe6 := Lib.hid bwe6.size
  replace K := Lib.hid (K.out.keep bwe6)
  replace W0 := Lib.hid (W0.out.keep (fun b hb => bwe6.block b (W0.out.inside b hb)))
  replace W1 := Lib.hid (W1.out.keep (fun b hb => bwe6.block b (W1.out.inside b hb)))
  replace G0 := Lib.hid (G0.out.keep (fun b hb => bwe6.block b (G0.out.inside b hb)))
  replace G1 := Lib.hid (G1.out.keep (fun b hb => bwe6.block b (G1.out.inside b hb)))
  replace H0 := Lib.hid (H0.out.keep (fun b hb => bwe6.block b (H0.out.inside b hb)))
  replace H1 := Lib.hid (H1.out.keep (fun b hb => bwe6.block b (H1.out.inside b hb)))
  replace HB := Lib.hid (HB.out.trans (bwe6.mono HB.out.size))
  clear bwe6
  go_wp2_with fail
  refine (heldDatUnitS_h _ (1) (endUnits x) _ G0.out.rd (by omega) (by have := BM0.out; have := BM1.out; omega)).mono ?_
  rintro e wh3 ⟨rfl, bwh3⟩
  have Swh3 := Lib.hid bwh3.size
  replace K := Lib.hid (K.out.keep bwh3)
  replace W0 := Lib.hid (W0.out.keep (fun b hb => bwh3.block b (W0.out.inside b hb)))
  replace W1 := Lib.hid (W1.out.keep (fun b hb => bwh3.block b (W1.out.inside b hb)))
  replace G0 := Lib.hid (G0.out.keep (fun b hb => bwh3.block b (G0.out.inside b hb)))
  replace G1 := Lib.hid (G1.out.keep (fun b hb => bwh3.block b (G1.out.inside b hb)))
  replace H0 := Lib.hid (H0.out.keep (fun b hb => bwh3.block b (H0.out.inside b hb)))
  replace H1 := Lib.hid (H1.out.keep (fun b hb => bwh3.block b (H1.out.inside b hb)))
  replace HB := Lib.hid (HB.out.trans (bwh3.mono HB.out.size))
  clear bwh3
  go_wp2_with fail
  refine (heldIntS_h _ (1 + ((szL smDatUnit (endUnits x) : Nat) : Int)) (endMs x).length _ G1.out.rd (by have := BM0.out; have := BM1.out; omega) ⟨by omega, by have := BM0.out; have := BM1.out; omega⟩).mono ?_
  rintro e wh4 ⟨rfl, bwh4⟩
  have Swh4 := Lib.hid bwh4.size
  replace K := Lib.hid (K.out.keep bwh4)
  replace W0 := Lib.hid (W0.out.keep (fun b hb => bwh4.block b (W0.out.inside b hb)))
  replace W1 := Lib.hid (W1.out.keep (fun b hb => bwh4.block b (W1.out.inside b hb)))
  replace G0 := Lib.hid (G0.out.keep (fun b hb => bwh4.block b (G0.out.inside b hb)))
  replace G1 := Lib.hid (G1.out.keep (fun b hb => bwh4.block b (G1.out.inside b hb)))
  replace H0 := Lib.hid (H0.out.keep (fun b hb => bwh4.block b (H0.out.inside b hb)))
  replace H1 := Lib.hid (H1.out.keep (fun b hb => bwh4.block b (H1.out.inside b hb)))
  replace HB := Lib.hid (HB.out.trans (bwh4.mono HB.out.size))
  clear bwh4
  go_wp2
  go_ret
  exact ⟨rfl, HB.out⟩
set_option maxRecDepth 100000 in
theorem datEnd_lifted (os : Os) (started : os.Started) (H : Type) (enc : TypeId × Value → H) :
    ReturnsInHanded {} Try.checked os 9 .any (Rows.fnExactDatEndSpec.pre6 enc Try.prog Try.f9 Rows.fnExactDatEndRow.domain false) (Rows.fnExactDatEndSpec.post enc Try.prog Try.f9 false true false false) := by
  refine returnsInHanded_of_change (C := Try.checked) ownKnob_none started (by kernel_rfl) Try.func9
    (ChangeSpec.witness6 (enc := enc) (C := Try.checked) false ⟨#[], #[.agg #[.int .i64 0, .int .i64 0, .slice none 0 0, .slice none 0 0, .slice none 0 0]], []⟩ 8 (by kernel_rfl) (by kernel_rfl) (by kernel_rfl) (by kernel_rfl)) ?_
  intro W base args ds gs before hval hW _ _
  have hW' := hW
  obtain ⟨p, q, hA, _⟩ := hW
  have hA' : DataW.TrodAll enc Try.prog W 0 (fun _ => true) true [78] args.toList ds p := hA
  obtain ⟨v0, vs0, d0, ds0, p0, q0, hargs, rfl, rfl, h0, r0⟩ := trodAll_cons hA'
  obtain ⟨rfl, rfl, rfl⟩ := trodAll_nil r0
  obtain rfl : args = #[v0] := by cases args; simp_all
  obtain ⟨cs, rfl, hcs⟩ := okWide_struct Try.underlying78 (hval 0 78 v0 rfl rfl)
  rw [cells_DatOut] at hcs
  obtain ⟨fuel, hf⟩ := h0
  simp only [Value.cells] at hf
  obtain ⟨x, hx⟩ := read_DatOut _ _ _ (by simpa using hcs) hf
  refine (lawDatEnd cs.toList x W hx).mono fun e W' ⟨he, hb⟩ => ?_
  subst he
  exact ⟨_, rfl, law_post (tb := 4) laidOut (by decide +kernel) rfl rfl Try.underlying4 (by rintro _ rfl; rfl) hW' hb⟩

theorem datEnd_proved : Rows.FnExactDatEndSaid :=
  OpenClaim.holds_of_wide 9 Try.f9 rfl rfl rfl rfl rfl rfl rfl ⟨rfl, rfl, rfl, rfl, rfl⟩ rfl rfl rfl rfl rfl (by kernel_rfl) Try.func9 datEnd_closed
    (of_decide_eq_true (by kernel_rfl)) (by unfold Func.isWrapper; first | (rw [if_pos (by decide +kernel)]; kernel_rfl) | (rw [if_neg (by decide +kernel)]; exact ⟨rfl, rfl⟩))
    (fun os started H enc _ => datEnd_lifted os started H enc)
#print axioms datEnd_proved
end Go.Proofs.Ytcflkcjicaieeaa
