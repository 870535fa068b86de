/-
  AspRise of the program answers at every argument as the model's AspRise, writes nothing into its argument, and its answer is memory of its own (Rows.FnExactAspRiseSaid). No condition. (Written by wip/tools/genlawmem.py.)
-/
import Derived.Test.YthdjjgbjemaabaaGoneS
import Derived.Test.YthdjjgbjemaabaaGoneP
import Derived.Test.YthdjjgbjemaabaaClAspRise
import Derived.Test.YthdjjgbjemaabaaMkAspBook
import Derived.Test.YthdjjgbjemaabaaMkMsgWord
import Derived.Test.YthdjjgbjemaabaaAppI
import Derived.Test.YthdjjgbjemaabaaRow
import Derived.ChangeSame
import Derived.Deep.RegionHeld3
namespace Go.Proofs.Ythdjjgbjemaabaa
open Go.ChangeShapes Go.WideShapes Go.ChangeAt Go.RowKit
set_option linter.unusedVariables false
set_option linter.unusedSimpArgs false

theorem scaspRise {x : World} {b c : Nat} {p0 p1 q0 q1 : Value} (h : Blk x b [p0, p1]) (k : Blk x c [q0, q1]) :
    x.cell? ⟨b, 0, none⟩ = some p0 ∧ x.cell? ⟨b, 1, none⟩ = some p1 ∧ x.cell? ⟨c, 0, none⟩ = some q0 ∧ x.cell? ⟨c, 1, none⟩ = some q1 :=
  ⟨h.at rfl, h.at rfl, k.at rfl, k.at rfl⟩
theorem smz_AspGate (xs : List DAspGate) : szL smAspGate xs ≤ 64 * (zL zAspGate xs) := by
  induction xs with
  | nil => simp [szL]
  | cons x xs ih =>
    have h1 : smAspGate x ≤ 64 * (1 + zAspGate x) := by
      simp only [smAspGate, zAspGate]; omega
    simp only [zL, szL, List.length_cons] at ih ⊢; omega
theorem smz_MsgWord (xs : List DMsgWord) : szL smMsgWord xs ≤ 64 * (zL zMsgWord xs) := by
  induction xs with
  | nil => simp [szL]
  | cons x xs ih =>
    have h1 : smMsgWord x ≤ 64 * (1 + zMsgWord x) := by
      simp only [smMsgWord, zMsgWord]; omega
    simp only [zL, szL, List.length_cons] at ih ⊢; omega
set_option maxRecDepth 100000 in
set_option maxHeartbeats 8000000 in
theorem lawAspRise (gate : Int) (cs : List Value) (x : DAspBook) (w : World) (h : FAspBook w cs x) : Calls Try.prog 6 #[.agg cs.toArray, .int .i64 gate] w fun e w' => e = .returned (.bool true) ∧ Below w.heap.size w w' := by
  have HF := Lib.hid h
  obtain ⟨v0, v1, rfl, h0, h1⟩ := h
  have K := Lib.hid (Blk.new (w := w) (b := w.heap.size) #[v0, v1] 48 rfl)
  have HB := Lib.hid ((Below.refl w.heap.size w).alloc (Nat.le_refl _) (.cells #[v0, v1] 48))
  clear h0 h1
  go_enter Try.func6, Try.ntmps6
  go_wp2_with fail
  refine (szAspBook_z _ x _ _ (HF.out.below HB.out) ⟨by omega, by omega⟩).mono ?_
  rintro e w1 ⟨rfl, b1⟩
  replace K := Lib.hid (K.out.keep b1)
  replace HB := Lib.hid (HB.out.trans (b1.mono HB.out.size))
  clear b1
  have hr := szR_cases 1048576 (zAspBook x) (by omega)
  generalize szR 1048576 (zAspBook x) = r at *
  rcases hr with ⟨rfl, _⟩ | ⟨hr, _, ht⟩
  · go_wp2
    go_ret
    exact ⟨rfl, HB.out⟩
  have Hn := Lib.hid (show zAspBook x ≤ 1048576 by omega)
  clear ht
  obtain ⟨bd0, bd1⟩ := aspRise_bd gate x Hn.out
  have BD0 := Lib.hid bd0
  have BM0 := Lib.hid (show saAspBook (goneF x gate) ≤ 67108864 by have := smz_AspGate (goneF x gate).xGates; simp only [saAspBook, zAspBook] at bd0 ⊢; omega)
  clear bd0
  have BD1 := Lib.hid bd1
  have BM1 := Lib.hid (show szL smMsgWord (riseSays x gate) ≤ 67108864 by have := smz_MsgWord (riseSays x gate); omega)
  clear bd1
  have BX := Lib.hid (show saAspBook x ≤ 67108864 by have hn := Hn.out; have := smz_AspGate x.xGates; simp only [saAspBook, zAspBook] at hn ⊢; omega)
  have pc0 := K.out.at (i := 0) rfl
  have pc1 := K.out.at (i := 1) rfl
  go_wp2_with fail
  refine (toAspBook_n _ x _ (HF.out.below HB.out) Hn.out).mono ?_
  rintro e w2 ⟨csw2, fw2, rfl, ow2, nw2, bw2⟩
  replace K := Lib.hid (K.out.keep bw2)
  replace HB := Lib.hid (HB.out.trans (bw2.mono HB.out.size))
  clear pc0 pc1
  have O2 := Lib.hid ow2.rd
  have Sw2 := Lib.hid bw2.size
  clear ow2 nw2 bw2
  have Ww2 := Lib.hid K.out.lt
  go_wp2_with fail
  refine (specAspRise_n gate _ x _ O2.out Hn.out).mono ?_
  rintro e w3 ⟨Wv0, Wv1, Wf0, Wf1, rfl, Wo0, Wo1, Wn, bw3⟩
  have Sw3 := Lib.hid bw3.size
  replace K := Lib.hid (K.out.keep bw3)
  replace HB := Lib.hid (HB.out.trans (bw3.mono HB.out.size))
  clear bw3
  have WN := Lib.hid Wn
  clear Wn
  have W0 := Lib.hid Wo0
  obtain ⟨Wu0_0, Wu0_1, Wg0_0, Wg0_1, rfl, Wp0_0, Wp0_1, rfl⟩ := Wo0
  obtain ⟨W0A0, W0c0, rfl⟩ :=  Wp0_0.rd.slice
  clear Wp0_0
  obtain ⟨W0A1, W0c1, rfl⟩ := OwL.slice Wp0_1
  clear Wp0_1
  have W1 := Lib.hid Wo1
  clear Wo1
  have WB0 := Lib.hid (Blk.new (w := w3) (b := w3.heap.size) #[.slice W0A0 (goneF x gate).xWish.length W0c0, .slice W0A1 (goneF x gate).xGates.length W0c1] 38 rfl)
  have bx := (Below.refl w3.heap.size w3).alloc (Nat.le_refl _) (.cells #[.slice W0A0 (goneF x gate).xWish.length W0c0, .slice W0A1 (goneF x gate).xGates.length W0c1] 38)
  replace K := Lib.hid (K.out.keep bx)
  replace W0 := Lib.hid (EAspBook.framed _ _ _ _ _ W0.out (fun b hb => bx.block b (EAspBook.inside _ _ _ _ W0.out b hb)))
  replace W1 := Lib.hid (W1.out.keep (fun b hb => bx.block b (W1.out.inside b hb)))
  replace HB := Lib.hid (HB.out.trans (bx.mono HB.out.size))
  clear bx
  have SW0 := Lib.hid (show w3.heap.size + 1 = (World.alloc w3 (.cells #[.slice W0A0 (goneF x gate).xWish.length W0c0, .slice W0A1 (goneF x gate).xGates.length W0c1] 38)).heap.size by simp)
  clear O2
  have pc0 := K.out.at (i := 0) rfl
  have pc1 := K.out.at (i := 1) rfl
  go_wp2_with fail
  refine (toAspBook_n _ x _ (HF.out.below HB.out) Hn.out).mono ?_
  rintro e w4 ⟨csw4, fw4, rfl, ow4, nw4, bw4⟩
  replace K := Lib.hid (K.out.keep bw4)
  replace W0 := Lib.hid (EAspBook.framed _ _ _ _ _ W0.out (fun b hb => bw4.block b (EAspBook.inside _ _ _ _ W0.out b hb)))
  replace W1 := Lib.hid (W1.out.keep (fun b hb => bw4.block b (W1.out.inside b hb)))
  replace WB0 := Lib.hid (WB0.out.keep bw4)
  replace HB := Lib.hid (HB.out.trans (bw4.mono HB.out.size))
  clear pc0 pc1
  have XE := Lib.hid ow4
  have XN := Lib.hid nw4
  have Sw4 := Lib.hid bw4.size
  clear nw4 bw4
  obtain ⟨xv0, xv1, xf0, xf1, rfl, xo0, xo1, rfl⟩ := ow4
  obtain ⟨xA0, xc0, rfl⟩ :=  xo0.rd.slice
  clear xo0
  obtain ⟨xA1, xc1, rfl⟩ := OwL.slice xo1
  clear xo1
  have X := Lib.hid (Blk.new (w := w4) (b := w4.heap.size) #[.slice xA0 x.xWish.length xc0, .slice xA1 x.xGates.length xc1] 38 rfl)
  have bx := (Below.refl w4.heap.size w4).alloc (Nat.le_refl _) (.cells #[.slice xA0 x.xWish.length xc0, .slice xA1 x.xGates.length xc1] 38)
  replace K := Lib.hid (K.out.keep bx)
  replace W0 := Lib.hid (EAspBook.framed _ _ _ _ _ W0.out (fun b hb => bx.block b (EAspBook.inside _ _ _ _ W0.out b hb)))
  replace W1 := Lib.hid (W1.out.keep (fun b hb => bx.block b (W1.out.inside b hb)))
  replace WB0 := Lib.hid (WB0.out.keep bx)
  replace XE := Lib.hid (EAspBook.framed _ _ _ _ _ XE.out (fun b hb => bx.block b (EAspBook.inside _ _ _ _ XE.out b hb)))
  replace HB := Lib.hid (HB.out.trans (bx.mono HB.out.size))
  clear bx
  have Swx := Lib.hid (show w4.heap.size + 1 = (World.alloc w4 (.cells #[.slice xA0 x.xWish.length xc0, .slice xA1 x.xGates.length xc1] 38)).heap.size by simp)
  go_wp2_with fail
  refine (implAspRise_n gate _ x _ XE.out.rd Hn.out).mono ?_
  rintro e w5 ⟨Gv0, Gv1, Gf0, Gf1, rfl, Go0, Go1, Gn, bw5⟩
  have Sw5 := Lib.hid bw5.size
  replace K := Lib.hid (K.out.keep bw5)
  replace W0 := Lib.hid (EAspBook.framed _ _ _ _ _ W0.out (fun b hb => bw5.block b (EAspBook.inside _ _ _ _ W0.out b hb)))
  replace W1 := Lib.hid (W1.out.keep (fun b hb => bw5.block b (W1.out.inside b hb)))
  replace WB0 := Lib.hid (WB0.out.keep bw5)
  replace XE := Lib.hid (EAspBook.framed _ _ _ _ _ XE.out (fun b hb => bw5.block b (EAspBook.inside _ _ _ _ XE.out b hb)))
  replace X := Lib.hid (X.out.keep bw5)
  replace HB := Lib.hid (HB.out.trans (bw5.mono HB.out.size))
  clear bw5
  have GN := Lib.hid Gn
  clear Gn
  have G0 := Lib.hid Go0
  obtain ⟨Gu0_0, Gu0_1, Gg0_0, Gg0_1, rfl, Gp0_0, Gp0_1, rfl⟩ := Go0
  obtain ⟨G0A0, G0c0, rfl⟩ :=  Gp0_0.rd.slice
  clear Gp0_0
  obtain ⟨G0A1, G0c1, rfl⟩ := OwL.slice Gp0_1
  clear Gp0_1
  have G1 := Lib.hid Go1
  clear Go1
  have GB0 := Lib.hid (Blk.new (w := w5) (b := w5.heap.size) #[.slice G0A0 (goneF x gate).xWish.length G0c0, .slice G0A1 (goneF x gate).xGates.length G0c1] 38 rfl)
  have bx := (Below.refl w5.heap.size w5).alloc (Nat.le_refl _) (.cells #[.slice G0A0 (goneF x gate).xWish.length G0c0, .slice G0A1 (goneF x gate).xGates.length G0c1] 38)
  replace K := Lib.hid (K.out.keep bx)
  replace W0 := Lib.hid (EAspBook.framed _ _ _ _ _ W0.out (fun b hb => bx.block b (EAspBook.inside _ _ _ _ W0.out b hb)))
  replace W1 := Lib.hid (W1.out.keep (fun b hb => bx.block b (W1.out.inside b hb)))
  replace WB0 := Lib.hid (WB0.out.keep bx)
  replace XE := Lib.hid (EAspBook.framed _ _ _ _ _ XE.out (fun b hb => bx.block b (EAspBook.inside _ _ _ _ XE.out b hb)))
  replace X := Lib.hid (X.out.keep bx)
  replace G0 := Lib.hid (EAspBook.framed _ _ _ _ _ G0.out (fun b hb => bx.block b (EAspBook.inside _ _ _ _ G0.out b hb)))
  replace G1 := Lib.hid (G1.out.keep (fun b hb => bx.block b (G1.out.inside b hb)))
  replace HB := Lib.hid (HB.out.trans (bx.mono HB.out.size))
  clear bx
  have SG0 := Lib.hid (show w5.heap.size + 1 = (World.alloc w5 (.cells #[.slice G0A0 (goneF x gate).xWish.length G0c0, .slice G0A1 (goneF x gate).xGates.length G0c1] 38)).heap.size by simp)
  have ea0 := GB0.out.at (i := 0) rfl
  have ea1 := GB0.out.at (i := 1) rfl
  have eb0 := WB0.out.at (i := 0) rfl
  have eb1 := WB0.out.at (i := 1) rfl
  go_wp2_with fail
  refine (eqAspBook_s _ _ (goneF x gate) _ G0.out.rd W0.out.rd BD0.out).mono ?_
  rintro e we1 ⟨rfl, bwe1⟩
  have Swe1 := Lib.hid bwe1.size
  replace K := Lib.hid (K.out.keep bwe1)
  replace W0 := Lib.hid (EAspBook.framed _ _ _ _ _ W0.out (fun b hb => bwe1.block b (EAspBook.inside _ _ _ _ W0.out b hb)))
  replace W1 := Lib.hid (W1.out.keep (fun b hb => bwe1.block b (W1.out.inside b hb)))
  replace WB0 := Lib.hid (WB0.out.keep bwe1)
  replace XE := Lib.hid (EAspBook.framed _ _ _ _ _ XE.out (fun b hb => bwe1.block b (EAspBook.inside _ _ _ _ XE.out b hb)))
  replace X := Lib.hid (X.out.keep bwe1)
  replace G0 := Lib.hid (EAspBook.framed _ _ _ _ _ G0.out (fun b hb => bwe1.block b (EAspBook.inside _ _ _ _ G0.out b hb)))
  replace G1 := Lib.hid (G1.out.keep (fun b hb => bwe1.block b (G1.out.inside b hb)))
  replace GB0 := Lib.hid (GB0.out.keep bwe1)
  replace HB := Lib.hid (HB.out.trans (bwe1.mono HB.out.size))
  clear bwe1
  clear ea0 ea1
  clear eb0 eb1
  go_wp2_with fail
  refine (eqMsgWordS_s _ _ (riseSays x gate) _ G1.out.rd W1.out.rd BD1.out).mono ?_
  rintro e we2 ⟨rfl, bwe2⟩
  have Swe2 := Lib.hid bwe2.size
  replace K := Lib.hid (K.out.keep bwe2)
  replace W0 := Lib.hid (EAspBook.framed _ _ _ _ _ W0.out (fun b hb => bwe2.block b (EAspBook.inside _ _ _ _ W0.out b hb)))
  replace W1 := Lib.hid (W1.out.keep (fun b hb => bwe2.block b (W1.out.inside b hb)))
  replace WB0 := Lib.hid (WB0.out.keep bwe2)
  replace XE := Lib.hid (EAspBook.framed _ _ _ _ _ XE.out (fun b hb => bwe2.block b (EAspBook.inside _ _ _ _ XE.out b hb)))
  replace X := Lib.hid (X.out.keep bwe2)
  replace G0 := Lib.hid (EAspBook.framed _ _ _ _ _ G0.out (fun b hb => bwe2.block b (EAspBook.inside _ _ _ _ G0.out b hb)))
  replace G1 := Lib.hid (G1.out.keep (fun b hb => bwe2.block b (G1.out.inside b hb)))
  replace GB0 := Lib.hid (GB0.out.keep bwe2)
  replace HB := Lib.hid (HB.out.trans (bwe2.mono HB.out.size))
  clear bwe2
  have X5 := Lib.hid X.out.drew
  have K5 := Lib.hid K.out.drew
  have XR := Lib.hid (XE.out.rd.below (Below.refl _ _).drew)
  go_wp2_with fail
  go_region_held3 (fun y => y.cell? ⟨w4.heap.size, 0, none⟩ = some (.slice xA0 x.xWish.length xc0) ∧ y.cell? ⟨w4.heap.size, 1, none⟩ = some (.slice xA1 x.xGates.length xc1) ∧ y.cell? ⟨w.heap.size, 0, none⟩ = some (v0) ∧ y.cell? ⟨w.heap.size, 1, none⟩ = some (v1)) (first | (with_reducible exact scaspRise X5.out K5.out) | (with_reducible exact scaspRise X6.out K6.out) | (with_reducible exact scaspRise X7.out K7.out)) (first | (go_at_call 35; refine (toAspBook_n _ x _ (HF.out.below HB.out.drew) Hn.out).mono ?_; rintro e w6 ⟨cs6, f6, rfl, o6, n6, b6⟩; have O6 := Lib.hid o6.rd; have O46 := Lib.hid (XR.out.below b6); have X6 := Lib.hid (X5.out.keep b6); have K6 := Lib.hid (K5.out.keep b6); have B6 := Lib.hid b6; clear o6 n6 b6) | (go_at_call 28; refine (eqAspBook_s _ _ x _ O46.out O6.out Hn.out).mono ?_; rintro e w7 ⟨rfl, b7⟩; have X7 := Lib.hid (X6.out.keep b7); have K7 := Lib.hid (K6.out.keep b7); have B7 := Lib.hid b7; clear b7))
  have bb : Below we2.heap.size we2 w7 := ((Below.refl we2.heap.size we2).drew.trans B6.out).trans (B7.out.mono (show we2.heap.size ≤ w6.heap.size from B6.out.size))
  have Sbb := Lib.hid bb.size
  replace K := Lib.hid (K.out.keep bb)
  replace W0 := Lib.hid (EAspBook.framed _ _ _ _ _ W0.out (fun b hb => bb.block b (EAspBook.inside _ _ _ _ W0.out b hb)))
  replace W1 := Lib.hid (W1.out.keep (fun b hb => bb.block b (W1.out.inside b hb)))
  replace WB0 := Lib.hid (WB0.out.keep bb)
  replace XE := Lib.hid (EAspBook.framed _ _ _ _ _ XE.out (fun b hb => bb.block b (EAspBook.inside _ _ _ _ XE.out b hb)))
  replace X := Lib.hid (X.out.keep bb)
  replace G0 := Lib.hid (EAspBook.framed _ _ _ _ _ G0.out (fun b hb => bb.block b (EAspBook.inside _ _ _ _ G0.out b hb)))
  replace G1 := Lib.hid (G1.out.keep (fun b hb => bb.block b (G1.out.inside b hb)))
  replace GB0 := Lib.hid (GB0.out.keep bb)
  replace HB := Lib.hid (HB.out.trans (bb.mono HB.out.size))
  clear bb X5 K5 XR X6 K6 X7 K7 B6 B7 O6 O46
  have px0 := X.out.at (i := 0) rfl
  have px1 := X.out.at (i := 1) rfl
  go_wp2_with fail
  refine (markAspBook_m (xf0 ++ xf1) _ 1 x _ XE.out XN.out.1 (by omega) (by have := BX.out; omega)).mono ?_
  rintro e w8 ⟨rfl, o8, r8⟩
  have Sw8 := Lib.hid r8.size
  replace K := Lib.hid (K.out.frl r8 (XN.out.notin (by have := Sw2.out; have := Ww2.out; have := Sw3.out; have := SW0.out; have := Sw4.out; have := Swx.out; have := Sw5.out; have := SG0.out; have := Swe1.out; have := Swe2.out; have := Sbb.out; have := Sw8.out; first | omega | (simp; omega))))
  replace W0 := Lib.hid (EAspBook.framed _ _ _ _ _ W0.out (fun b hb => r8.block b (EAspBook.inside _ _ _ _ W0.out b hb) ((WN.out.left.far XN.out (by have := Sw2.out; have := Ww2.out; have := Sw3.out; have := SW0.out; have := Sw4.out; have := Swx.out; have := Sw5.out; have := SG0.out; have := Swe1.out; have := Swe2.out; have := Sbb.out; have := Sw8.out; first | omega | (simp; omega))) b hb)))
  replace W1 := Lib.hid (W1.out.keep (fun b hb => r8.block b (W1.out.inside b hb) ((WN.out.right.far XN.out (by have := Sw2.out; have := Ww2.out; have := Sw3.out; have := SW0.out; have := Sw4.out; have := Swx.out; have := Sw5.out; have := SG0.out; have := Swe1.out; have := Swe2.out; have := Sbb.out; have := Sw8.out; first | omega | (simp; omega))) b hb)))
  replace WB0 := Lib.hid (WB0.out.frl r8 (XN.out.notin (by have := Sw2.out; have := Ww2.out; have := Sw3.out; have := SW0.out; have := Sw4.out; have := Swx.out; have := Sw5.out; have := SG0.out; have := Swe1.out; have := Swe2.out; have := Sbb.out; have := Sw8.out; first | omega | (simp; omega))))
  replace X := Lib.hid (X.out.frl r8 (XN.out.notin (by have := Sw2.out; have := Ww2.out; have := Sw3.out; have := SW0.out; have := Sw4.out; have := Swx.out; have := Sw5.out; have := SG0.out; have := Swe1.out; have := Swe2.out; have := Sbb.out; have := Sw8.out; first | omega | (simp; omega))))
  replace G0 := Lib.hid (EAspBook.framed _ _ _ _ _ G0.out (fun b hb => r8.block b (EAspBook.inside _ _ _ _ G0.out b hb) ((GN.out.left.far XN.out (by have := Sw2.out; have := Ww2.out; have := Sw3.out; have := SW0.out; have := Sw4.out; have := Swx.out; have := Sw5.out; have := SG0.out; have := Swe1.out; have := Swe2.out; have := Sbb.out; have := Sw8.out; first | omega | (simp; omega))) b hb)))
  replace G1 := Lib.hid (G1.out.keep (fun b hb => r8.block b (G1.out.inside b hb) ((GN.out.right.far XN.out (by have := Sw2.out; have := Ww2.out; have := Sw3.out; have := SW0.out; have := Sw4.out; have := Swx.out; have := Sw5.out; have := SG0.out; have := Swe1.out; have := Swe2.out; have := Sbb.out; have := Sw8.out; first | omega | (simp; omega))) b hb)))
  replace GB0 := Lib.hid (GB0.out.frl r8 (XN.out.notin (by have := Sw2.out; have := Ww2.out; have := Sw3.out; have := SW0.out; have := Sw4.out; have := Swx.out; have := Sw5.out; have := SG0.out; have := Swe1.out; have := Swe2.out; have := Sbb.out; have := Sw8.out; first | omega | (simp; omega))))
  replace HB := Lib.hid (HB.out.trans (r8.belowNw XN.out (by have := Sw2.out; have := Ww2.out; have := Sw3.out; have := SW0.out; have := Sw4.out; have := Swx.out; have := Sw5.out; have := SG0.out; have := Swe1.out; have := Swe2.out; have := Sbb.out; have := Sw8.out; first | omega | (simp; omega)) HB.out.size))
  clear px0 px1
  clear o8 r8 X XE
  generalize hsx : saAspBook x = sx at *
  clear hsx
  have ea0 := GB0.out.at (i := 0) rfl
  have ea1 := GB0.out.at (i := 1) rfl
  have eb0 := WB0.out.at (i := 0) rfl
  have eb1 := WB0.out.at (i := 1) rfl
  go_wp2_with fail
  refine (eqAspBook_s _ _ (goneF x gate) _ G0.out.rd W0.out.rd BD0.out).mono ?_
  rintro e we3 ⟨rfl, bwe3⟩
  have Swe3 := Lib.hid bwe3.size
  replace K := Lib.hid (K.out.keep bwe3)
  replace W0 := Lib.hid (EAspBook.framed _ _ _ _ _ W0.out (fun b hb => bwe3.block b (EAspBook.inside _ _ _ _ W0.out b hb)))
  replace W1 := Lib.hid (W1.out.keep (fun b hb => bwe3.block b (W1.out.inside b hb)))
  replace WB0 := Lib.hid (WB0.out.keep bwe3)
  replace G0 := Lib.hid (EAspBook.framed _ _ _ _ _ G0.out (fun b hb => bwe3.block b (EAspBook.inside _ _ _ _ G0.out b hb)))
  replace G1 := Lib.hid (G1.out.keep (fun b hb => bwe3.block b (G1.out.inside b hb)))
  replace GB0 := Lib.hid (GB0.out.keep bwe3)
  replace HB := Lib.hid (HB.out.trans (bwe3.mono HB.out.size))
  clear bwe3
  clear ea0 ea1
  clear eb0 eb1
  go_wp2_with fail
  refine (eqMsgWordS_s _ _ (riseSays x gate) _ G1.out.rd W1.out.rd BD1.out).mono ?_
  rintro e we4 ⟨rfl, bwe4⟩
  have Swe4 := Lib.hid bwe4.size
  replace K := Lib.hid (K.out.keep bwe4)
  replace W0 := Lib.hid (EAspBook.framed _ _ _ _ _ W0.out (fun b hb => bwe4.block b (EAspBook.inside _ _ _ _ W0.out b hb)))
  replace W1 := Lib.hid (W1.out.keep (fun b hb => bwe4.block b (W1.out.inside b hb)))
  replace WB0 := Lib.hid (WB0.out.keep bwe4)
  replace G0 := Lib.hid (EAspBook.framed _ _ _ _ _ G0.out (fun b hb => bwe4.block b (EAspBook.inside _ _ _ _ G0.out b hb)))
  replace G1 := Lib.hid (G1.out.keep (fun b hb => bwe4.block b (G1.out.inside b hb)))
  replace GB0 := Lib.hid (GB0.out.keep bwe4)
  replace HB := Lib.hid (HB.out.trans (bwe4.mono HB.out.size))
  clear bwe4
  have pg0 := GB0.out.at (i := 0) rfl
  have pg1 := GB0.out.at (i := 1) rfl
  go_wp2_with fail
  refine (markAspBook_m (Gg0_0 ++ Gg0_1) _ (1) (goneF x gate) _ G0.out GN.out.left.1 (by omega) (by have := BM0.out; have := BM1.out; omega)).mono ?_
  rintro e wm0 ⟨rfl, owm0, rwm0⟩
  have Swm0 := Lib.hid rwm0.size
  replace K := Lib.hid (K.out.frl rwm0 (GN.out.left.notin (by have := Sw2.out; have := Ww2.out; have := Sw3.out; have := SW0.out; have := Sw4.out; have := Swx.out; have := Sw5.out; have := SG0.out; have := Swe1.out; have := Swe2.out; have := Sbb.out; have := Sw8.out; have := Swe3.out; have := Swe4.out; have := Swm0.out; first | omega | (simp; omega))))
  replace W0 := Lib.hid (EAspBook.framed _ _ _ _ _ W0.out (fun b hb => rwm0.block b (EAspBook.inside _ _ _ _ W0.out b hb) ((WN.out.left.far GN.out.left (by have := Sw2.out; have := Ww2.out; have := Sw3.out; have := SW0.out; have := Sw4.out; have := Swx.out; have := Sw5.out; have := SG0.out; have := Swe1.out; have := Swe2.out; have := Sbb.out; have := Sw8.out; have := Swe3.out; have := Swe4.out; have := Swm0.out; first | omega | (simp; omega))) b hb)))
  replace W1 := Lib.hid (W1.out.keep (fun b hb => rwm0.block b (W1.out.inside b hb) ((WN.out.right.far GN.out.left (by have := Sw2.out; have := Ww2.out; have := Sw3.out; have := SW0.out; have := Sw4.out; have := Swx.out; have := Sw5.out; have := SG0.out; have := Swe1.out; have := Swe2.out; have := Sbb.out; have := Sw8.out; have := Swe3.out; have := Swe4.out; have := Swm0.out; first | omega | (simp; omega))) b hb)))
  replace WB0 := Lib.hid (WB0.out.frl rwm0 (GN.out.left.notin (by have := Sw2.out; have := Ww2.out; have := Sw3.out; have := SW0.out; have := Sw4.out; have := Swx.out; have := Sw5.out; have := SG0.out; have := Swe1.out; have := Swe2.out; have := Sbb.out; have := Sw8.out; have := Swe3.out; have := Swe4.out; have := Swm0.out; first | omega | (simp; omega))))
  replace G1 := Lib.hid (G1.out.keep (fun b hb => rwm0.block b (G1.out.inside b hb) ((show ∀ b ∈ Gf1, b ∉ (Gg0_0 ++ Gg0_1) by have h1 := GN.out.1; intro b hb hc; simp only [List.nodup_append, List.mem_append] at h1; grind) b hb)))
  replace GB0 := Lib.hid (GB0.out.frl rwm0 (GN.out.left.notin (by have := Sw2.out; have := Ww2.out; have := Sw3.out; have := SW0.out; have := Sw4.out; have := Swx.out; have := Sw5.out; have := SG0.out; have := Swe1.out; have := Swe2.out; have := Sbb.out; have := Sw8.out; have := Swe3.out; have := Swe4.out; have := Swm0.out; first | omega | (simp; omega))))
  replace HB := Lib.hid (HB.out.trans (rwm0.belowNw GN.out.left (by have := Sw2.out; have := Ww2.out; have := Sw3.out; have := SW0.out; have := Sw4.out; have := Swx.out; have := Sw5.out; have := SG0.out; have := Swe1.out; have := Swe2.out; have := Sbb.out; have := Sw8.out; have := Swe3.out; have := Swe4.out; have := Swm0.out; first | omega | (simp; omega)) HB.out.size))
  replace G0 := Lib.hid owm0
  clear owm0 rwm0
  clear pg0 pg1
  go_wp2_with fail
  refine (markMsgWordS_m Gf1 _ (1 + ((saAspBook (goneF x gate) : Nat) : Int)) (riseSays x gate) _ G1.out GN.out.right.1 (by omega) (by have := BM0.out; have := BM1.out; omega)).mono ?_
  rintro e wm1 ⟨rfl, owm1, rwm1⟩
  have Swm1 := Lib.hid rwm1.size
  replace K := Lib.hid (K.out.frl rwm1 (GN.out.right.notin (by have := Sw2.out; have := Ww2.out; have := Sw3.out; have := SW0.out; have := Sw4.out; have := Swx.out; have := Sw5.out; have := SG0.out; have := Swe1.out; have := Swe2.out; have := Sbb.out; have := Sw8.out; have := Swe3.out; have := Swe4.out; have := Swm0.out; have := Swm1.out; first | omega | (simp; omega))))
  replace W0 := Lib.hid (EAspBook.framed _ _ _ _ _ W0.out (fun b hb => rwm1.block b (EAspBook.inside _ _ _ _ W0.out b hb) ((WN.out.left.far GN.out.right (by have := Sw2.out; have := Ww2.out; have := Sw3.out; have := SW0.out; have := Sw4.out; have := Swx.out; have := Sw5.out; have := SG0.out; have := Swe1.out; have := Swe2.out; have := Sbb.out; have := Sw8.out; have := Swe3.out; have := Swe4.out; have := Swm0.out; have := Swm1.out; first | omega | (simp; omega))) b hb)))
  replace W1 := Lib.hid (W1.out.keep (fun b hb => rwm1.block b (W1.out.inside b hb) ((WN.out.right.far GN.out.right (by have := Sw2.out; have := Ww2.out; have := Sw3.out; have := SW0.out; have := Sw4.out; have := Swx.out; have := Sw5.out; have := SG0.out; have := Swe1.out; have := Swe2.out; have := Sbb.out; have := Sw8.out; have := Swe3.out; have := Swe4.out; have := Swm0.out; have := Swm1.out; first | omega | (simp; omega))) b hb)))
  replace WB0 := Lib.hid (WB0.out.frl rwm1 (GN.out.right.notin (by have := Sw2.out; have := Ww2.out; have := Sw3.out; have := SW0.out; have := Sw4.out; have := Swx.out; have := Sw5.out; have := SG0.out; have := Swe1.out; have := Swe2.out; have := Sbb.out; have := Sw8.out; have := Swe3.out; have := Swe4.out; have := Swm0.out; have := Swm1.out; first | omega | (simp; omega))))
  replace G0 := Lib.hid (EAspBook.framed _ _ _ _ _ G0.out (fun b hb => rwm1.block b (EAspBook.inside _ _ _ _ G0.out b hb) ((show ∀ b ∈ (Gg0_0 ++ Gg0_1), b ∉ Gf1 by have h1 := GN.out.1; intro b hb hc; simp only [List.nodup_append, List.mem_append] at h1; grind) b hb)))
  replace GB0 := Lib.hid (GB0.out.frl rwm1 (GN.out.right.notin (by have := Sw2.out; have := Ww2.out; have := Sw3.out; have := SW0.out; have := Sw4.out; have := Swx.out; have := Sw5.out; have := SG0.out; have := Swe1.out; have := Swe2.out; have := Sbb.out; have := Sw8.out; have := Swe3.out; have := Swe4.out; have := Swm0.out; have := Swm1.out; first | omega | (simp; omega))))
  replace HB := Lib.hid (HB.out.trans (rwm1.belowNw GN.out.right (by have := Sw2.out; have := Ww2.out; have := Sw3.out; have := SW0.out; have := Sw4.out; have := Swx.out; have := Sw5.out; have := SG0.out; have := Swe1.out; have := Swe2.out; have := Sbb.out; have := Sw8.out; have := Swe3.out; have := Swe4.out; have := Swm0.out; have := Swm1.out; first | omega | (simp; omega)) HB.out.size))
  replace G1 := Lib.hid owm1
  clear owm1 rwm1
  have pg0 := GB0.out.at (i := 0) rfl
  have pg1 := GB0.out.at (i := 1) rfl
  go_wp2_with fail
  refine (heldAspBook_h _ (1) (goneF x gate) _ G0.out.rd (by omega) (by have := BM0.out; have := BM1.out; omega)).mono ?_
  rintro e wh1 ⟨rfl, bwh1⟩
  have Swh1 := Lib.hid bwh1.size
  replace K := Lib.hid (K.out.keep bwh1)
  replace W0 := Lib.hid (EAspBook.framed _ _ _ _ _ W0.out (fun b hb => bwh1.block b (EAspBook.inside _ _ _ _ W0.out b hb)))
  replace W1 := Lib.hid (W1.out.keep (fun b hb => bwh1.block b (W1.out.inside b hb)))
  replace WB0 := Lib.hid (WB0.out.keep bwh1)
  replace G0 := Lib.hid (EAspBook.framed _ _ _ _ _ G0.out (fun b hb => bwh1.block b (EAspBook.inside _ _ _ _ G0.out b hb)))
  replace G1 := Lib.hid (G1.out.keep (fun b hb => bwh1.block b (G1.out.inside b hb)))
  replace GB0 := Lib.hid (GB0.out.keep bwh1)
  replace HB := Lib.hid (HB.out.trans (bwh1.mono HB.out.size))
  clear bwh1
  clear pg0 pg1
  go_wp2_with fail
  refine (heldMsgWordS_h _ (1 + ((saAspBook (goneF x gate) : Nat) : Int)) (riseSays x gate) _ G1.out.rd (by omega) (by have := BM0.out; have := BM1.out; omega)).mono ?_
  rintro e wh2 ⟨rfl, bwh2⟩
  have Swh2 := Lib.hid bwh2.size
  replace K := Lib.hid (K.out.keep bwh2)
  replace W0 := Lib.hid (EAspBook.framed _ _ _ _ _ W0.out (fun b hb => bwh2.block b (EAspBook.inside _ _ _ _ W0.out b hb)))
  replace W1 := Lib.hid (W1.out.keep (fun b hb => bwh2.block b (W1.out.inside b hb)))
  replace WB0 := Lib.hid (WB0.out.keep bwh2)
  replace G0 := Lib.hid (EAspBook.framed _ _ _ _ _ G0.out (fun b hb => bwh2.block b (EAspBook.inside _ _ _ _ G0.out b hb)))
  replace G1 := Lib.hid (G1.out.keep (fun b hb => bwh2.block b (G1.out.inside b hb)))
  replace GB0 := Lib.hid (GB0.out.keep bwh2)
  replace HB := Lib.hid (HB.out.trans (bwh2.mono HB.out.size))
  clear bwh2
  have pc0 := K.out.at (i := 0) rfl
  have pc1 := K.out.at (i := 1) rfl
  go_wp2_with fail
  refine (toAspBook_n _ x _ (HF.out.below HB.out) Hn.out).mono ?_
  rintro e w9 ⟨csw9, fw9, rfl, ow9, nw9, bw9⟩
  replace K := Lib.hid (K.out.keep bw9)
  replace W0 := Lib.hid (EAspBook.framed _ _ _ _ _ W0.out (fun b hb => bw9.block b (EAspBook.inside _ _ _ _ W0.out b hb)))
  replace W1 := Lib.hid (W1.out.keep (fun b hb => bw9.block b (W1.out.inside b hb)))
  replace WB0 := Lib.hid (WB0.out.keep bw9)
  replace G0 := Lib.hid (EAspBook.framed _ _ _ _ _ G0.out (fun b hb => bw9.block b (EAspBook.inside _ _ _ _ G0.out b hb)))
  replace G1 := Lib.hid (G1.out.keep (fun b hb => bw9.block b (G1.out.inside b hb)))
  replace GB0 := Lib.hid (GB0.out.keep bw9)
  replace HB := Lib.hid (HB.out.trans (bw9.mono HB.out.size))
  clear pc0 pc1
  have O9 := Lib.hid ow9.rd
  have Sw9 := Lib.hid bw9.size
  clear ow9 nw9 bw9
  go_wp2_with fail
  refine (implAspRise_n gate _ x _ O9.out Hn.out).mono ?_
  rintro e w10 ⟨Hv0, Hv1, Hf0, Hf1, rfl, Ho0, Ho1, Hn, bw10⟩
  have Sw10 := Lib.hid bw10.size
  replace K := Lib.hid (K.out.keep bw10)
  replace W0 := Lib.hid (EAspBook.framed _ _ _ _ _ W0.out (fun b hb => bw10.block b (EAspBook.inside _ _ _ _ W0.out b hb)))
  replace W1 := Lib.hid (W1.out.keep (fun b hb => bw10.block b (W1.out.inside b hb)))
  replace WB0 := Lib.hid (WB0.out.keep bw10)
  replace G0 := Lib.hid (EAspBook.framed _ _ _ _ _ G0.out (fun b hb => bw10.block b (EAspBook.inside _ _ _ _ G0.out b hb)))
  replace G1 := Lib.hid (G1.out.keep (fun b hb => bw10.block b (G1.out.inside b hb)))
  replace GB0 := Lib.hid (GB0.out.keep bw10)
  replace HB := Lib.hid (HB.out.trans (bw10.mono HB.out.size))
  clear bw10
  have HN := Lib.hid Hn
  clear Hn
  have H0 := Lib.hid Ho0
  obtain ⟨Hu0_0, Hu0_1, Hg0_0, Hg0_1, rfl, Hp0_0, Hp0_1, rfl⟩ := Ho0
  obtain ⟨H0A0, H0c0, rfl⟩ :=  Hp0_0.rd.slice
  clear Hp0_0
  obtain ⟨H0A1, H0c1, rfl⟩ := OwL.slice Hp0_1
  clear Hp0_1
  have H1 := Lib.hid Ho1
  clear Ho1
  have HB0 := Lib.hid (Blk.new (w := w10) (b := w10.heap.size) #[.slice H0A0 (goneF x gate).xWish.length H0c0, .slice H0A1 (goneF x gate).xGates.length H0c1] 38 rfl)
  have bx := (Below.refl w10.heap.size w10).alloc (Nat.le_refl _) (.cells #[.slice H0A0 (goneF x gate).xWish.length H0c0, .slice H0A1 (goneF x gate).xGates.length H0c1] 38)
  replace K := Lib.hid (K.out.keep bx)
  replace W0 := Lib.hid (EAspBook.framed _ _ _ _ _ W0.out (fun b hb => bx.block b (EAspBook.inside _ _ _ _ W0.out b hb)))
  replace W1 := Lib.hid (W1.out.keep (fun b hb => bx.block b (W1.out.inside b hb)))
  replace WB0 := Lib.hid (WB0.out.keep bx)
  replace G0 := Lib.hid (EAspBook.framed _ _ _ _ _ G0.out (fun b hb => bx.block b (EAspBook.inside _ _ _ _ G0.out b hb)))
  replace G1 := Lib.hid (G1.out.keep (fun b hb => bx.block b (G1.out.inside b hb)))
  replace GB0 := Lib.hid (GB0.out.keep bx)
  replace H0 := Lib.hid (EAspBook.framed _ _ _ _ _ H0.out (fun b hb => bx.block b (EAspBook.inside _ _ _ _ H0.out b hb)))
  replace H1 := Lib.hid (H1.out.keep (fun b hb => bx.block b (H1.out.inside b hb)))
  replace HB := Lib.hid (HB.out.trans (bx.mono HB.out.size))
  clear bx
  have SH0 := Lib.hid (show w10.heap.size + 1 = (World.alloc w10 (.cells #[.slice H0A0 (goneF x gate).xWish.length H0c0, .slice H0A1 (goneF x gate).xGates.length H0c1] 38)).heap.size by simp)
  clear O9
  have ea0 := HB0.out.at (i := 0) rfl
  have ea1 := HB0.out.at (i := 1) rfl
  have eb0 := WB0.out.at (i := 0) rfl
  have eb1 := WB0.out.at (i := 1) rfl
  go_wp2_with fail
  refine (eqAspBook_s _ _ (goneF x gate) _ H0.out.rd W0.out.rd BD0.out).mono ?_
  rintro e we5 ⟨rfl, bwe5⟩
  have Swe5 := Lib.hid bwe5.size
  replace K := Lib.hid (K.out.keep bwe5)
  replace W0 := Lib.hid (EAspBook.framed _ _ _ _ _ W0.out (fun b hb => bwe5.block b (EAspBook.inside _ _ _ _ W0.out b hb)))
  replace W1 := Lib.hid (W1.out.keep (fun b hb => bwe5.block b (W1.out.inside b hb)))
  replace WB0 := Lib.hid (WB0.out.keep bwe5)
  replace G0 := Lib.hid (EAspBook.framed _ _ _ _ _ G0.out (fun b hb => bwe5.block b (EAspBook.inside _ _ _ _ G0.out b hb)))
  replace G1 := Lib.hid (G1.out.keep (fun b hb => bwe5.block b (G1.out.inside b hb)))
  replace GB0 := Lib.hid (GB0.out.keep bwe5)
  replace H0 := Lib.hid (EAspBook.framed _ _ _ _ _ H0.out (fun b hb => bwe5.block b (EAspBook.inside _ _ _ _ H0.out b hb)))
  replace H1 := Lib.hid (H1.out.keep (fun b hb => bwe5.block b (H1.out.inside b hb)))
  replace HB0 := Lib.hid (HB0.out.keep bwe5)
  replace HB := Lib.hid (HB.out.trans (bwe5.mono HB.out.size))
  clear bwe5
  clear ea0 ea1
  clear eb0 eb1
  go_wp2_with fail
  refine (eqMsgWordS_s _ _ (riseSays x gate) _ H1.out.rd W1.out.rd BD1.out).mono ?_
  rintro e we6 ⟨rfl, bwe6⟩
  have Swe6 := Lib.hid bwe6.size
  replace K := Lib.hid (K.out.keep bwe6)
  replace W0 := Lib.hid (EAspBook.framed _ _ _ _ _ W0.out (fun b hb => bwe6.block b (EAspBook.inside _ _ _ _ W0.out b hb)))
  replace W1 := Lib.hid (W1.out.keep (fun b hb => bwe6.block b (W1.out.inside b hb)))
  replace WB0 := Lib.hid (WB0.out.keep bwe6)
  replace G0 := Lib.hid (EAspBook.framed _ _ _ _ _ G0.out (fun b hb => bwe6.block b (EAspBook.inside _ _ _ _ G0.out b hb)))
  replace G1 := Lib.hid (G1.out.keep (fun b hb => bwe6.block b (G1.out.inside b hb)))
  replace GB0 := Lib.hid (GB0.out.keep bwe6)
  replace H0 := Lib.hid (EAspBook.framed _ _ _ _ _ H0.out (fun b hb => bwe6.block b (EAspBook.inside _ _ _ _ H0.out b hb)))
  replace H1 := Lib.hid (H1.out.keep (fun b hb => bwe6.block b (H1.out.inside b hb)))
  replace HB0 := Lib.hid (HB0.out.keep bwe6)
  replace HB := Lib.hid (HB.out.trans (bwe6.mono HB.out.size))
  clear bwe6
  have pg0 := GB0.out.at (i := 0) rfl
  have pg1 := GB0.out.at (i := 1) rfl
  go_wp2_with fail
  refine (heldAspBook_h _ (1) (goneF x gate) _ G0.out.rd (by omega) (by have := BM0.out; have := BM1.out; omega)).mono ?_
  rintro e wh3 ⟨rfl, bwh3⟩
  have Swh3 := Lib.hid bwh3.size
  replace K := Lib.hid (K.out.keep bwh3)
  replace W0 := Lib.hid (EAspBook.framed _ _ _ _ _ W0.out (fun b hb => bwh3.block b (EAspBook.inside _ _ _ _ W0.out b hb)))
  replace W1 := Lib.hid (W1.out.keep (fun b hb => bwh3.block b (W1.out.inside b hb)))
  replace WB0 := Lib.hid (WB0.out.keep bwh3)
  replace G0 := Lib.hid (EAspBook.framed _ _ _ _ _ G0.out (fun b hb => bwh3.block b (EAspBook.inside _ _ _ _ G0.out b hb)))
  replace G1 := Lib.hid (G1.out.keep (fun b hb => bwh3.block b (G1.out.inside b hb)))
  replace GB0 := Lib.hid (GB0.out.keep bwh3)
  replace H0 := Lib.hid (EAspBook.framed _ _ _ _ _ H0.out (fun b hb => bwh3.block b (EAspBook.inside _ _ _ _ H0.out b hb)))
  replace H1 := Lib.hid (H1.out.keep (fun b hb => bwh3.block b (H1.out.inside b hb)))
  replace HB0 := Lib.hid (HB0.out.keep bwh3)
  replace HB := Lib.hid (HB.out.trans (bwh3.mono HB.out.size))
  clear bwh3
  clear pg0 pg1
  go_wp2_with fail
  refine (heldMsgWordS_h _ (1 + ((saAspBook (goneF x gate) : Nat) : Int)) (riseSays x gate) _ G1.out.rd (by omega) (by have := BM0.out; have := BM1.out; omega)).mono ?_
  rintro e wh4 ⟨rfl, bwh4⟩
  have Swh4 := Lib.hid bwh4.size
  replace K := Lib.hid (K.out.keep bwh4)
  replace W0 := Lib.hid (EAspBook.framed _ _ _ _ _ W0.out (fun b hb => bwh4.block b (EAspBook.inside _ _ _ _ W0.out b hb)))
  replace W1 := Lib.hid (W1.out.keep (fun b hb => bwh4.block b (W1.out.inside b hb)))
  replace WB0 := Lib.hid (WB0.out.keep bwh4)
  replace G0 := Lib.hid (EAspBook.framed _ _ _ _ _ G0.out (fun b hb => bwh4.block b (EAspBook.inside _ _ _ _ G0.out b hb)))
  replace G1 := Lib.hid (G1.out.keep (fun b hb => bwh4.block b (G1.out.inside b hb)))
  replace GB0 := Lib.hid (GB0.out.keep bwh4)
  replace H0 := Lib.hid (EAspBook.framed _ _ _ _ _ H0.out (fun b hb => bwh4.block b (EAspBook.inside _ _ _ _ H0.out b hb)))
  replace H1 := Lib.hid (H1.out.keep (fun b hb => bwh4.block b (H1.out.inside b hb)))
  replace HB0 := Lib.hid (HB0.out.keep bwh4)
  replace HB := Lib.hid (HB.out.trans (bwh4.mono HB.out.size))
  clear bwh4
  go_wp2
  go_ret
  exact ⟨rfl, HB.out⟩
set_option maxRecDepth 100000 in
theorem aspRise_lifted (os : Os) (started : os.Started) (H : Type) (enc : TypeId × Value → H) :
    ReturnsInHanded {} Try.checked os 6 .any (Rows.fnExactAspRiseSpec.pre6 enc Try.prog Try.f6 Rows.fnExactAspRiseRow.domain false) (Rows.fnExactAspRiseSpec.post enc Try.prog Try.f6 false true false false) := by
  refine returnsInHanded_of_change (C := Try.checked) ownKnob_none started (by kernel_rfl) Try.func6
    (ChangeSpec.witness6 (enc := enc) (C := Try.checked) false ⟨#[], #[.agg #[.slice none 0 0, .slice none 0 0], .int .i64 0], []⟩ 8 (by kernel_rfl) (by kernel_rfl) (by kernel_rfl) (by kernel_rfl)) ?_
  intro W base args ds gs before hval hW _ _
  have hW' := hW
  obtain ⟨p, q, hA, _⟩ := hW
  have hA' : DataW.TrodAll enc Try.prog W 0 (fun _ => true) true [48, 3] args.toList ds p := hA
  obtain ⟨v0, vs0, d0, ds0, p0, q0, hargs, rfl, rfl, h0, r0⟩ := trodAll_cons hA'
  obtain ⟨v1, vs1, d1, ds1, p1, q1, rfl, rfl, rfl, h1, r1⟩ := trodAll_cons r0
  obtain ⟨rfl, rfl, rfl⟩ := trodAll_nil r1
  obtain rfl : args = #[v0, v1] := by cases args; simp_all
  obtain ⟨cs, rfl, hcs⟩ := okWide_struct Try.underlying48 (hval 0 48 v0 rfl rfl)
  rw [cells_AspBook] at hcs
  obtain ⟨fuel, hf⟩ := h0
  simp only [Value.cells] at hf
  obtain ⟨x, hx⟩ := read_AspBook _ _ _ (by simpa using hcs) hf
  obtain ⟨a1, rfl, rfl, rfl, w1⟩ := open_int Try.underlying3 (hval 1 3 v1 rfl rfl) h1
  refine (lawAspRise a1 cs.toList x W hx).mono fun e W' ⟨he, hb⟩ => ?_
  subst he
  exact ⟨_, rfl, law_post (tb := 4) laidOut (by decide +kernel) rfl rfl Try.underlying4 (by rintro _ rfl; rfl) hW' hb⟩

theorem aspRise_proved : Rows.FnExactAspRiseSaid :=
  OpenClaim.holds_of_wide 6 Try.f6 rfl rfl rfl rfl rfl rfl rfl ⟨rfl, rfl, rfl, rfl, rfl⟩ rfl rfl rfl rfl rfl (by kernel_rfl) Try.func6 aspRise_closed
    (of_decide_eq_true (by kernel_rfl)) (by unfold Func.isWrapper; first | (rw [if_pos (by decide +kernel)]; kernel_rfl) | (rw [if_neg (by decide +kernel)]; exact ⟨rfl, rfl⟩))
    (fun os started H enc _ => aspRise_lifted os started H enc)
#print axioms aspRise_proved
end Go.Proofs.Ythdjjgbjemaabaa
