/-
  DatInOpen of the program answers at every argument as the model's DatInOpen, writes nothing into its argument, and its answer is memory of its own (Rows.FnExactDatInOpenSaid). No condition. (Written by wip/tools/genlawmem.py.)
-/
import Derived.Test.YtcflkcjicaieeaaInOpenF
import Derived.Test.YtcflkcjicaieeaaClDatInOpen
import Derived.Test.YtcflkcjicaieeaaMkDatIn
import Derived.Test.YtcflkcjicaieeaaAppI
import Derived.Test.YtcflkcjicaieeaaRow
import Derived.ChangeSame
import Derived.Deep.RegionHeld3
namespace Go.Proofs.Ytcflkcjicaieeaa
open Go.ChangeShapes Go.WideShapes Go.ChangeAt Go.RowKit
set_option linter.unusedVariables false
set_option linter.unusedSimpArgs false

theorem smz_DatPiece (xs : List DDatPiece) : szL smDatPiece xs ≤ 64 * (zL zDatPiece xs) := by
  induction xs with
  | nil => simp [szL]
  | cons x xs ih =>
    have h1 : smDatPiece x ≤ 64 * (1 + zDatPiece x) := by
      simp only [smDatPiece, zDatPiece]; omega
    simp only [zL, szL, List.length_cons] at ih ⊢; omega
set_option maxRecDepth 100000 in
set_option maxHeartbeats 8000000 in
theorem lawDatInOpen (i0 : Int) (i1 : Int) (w : World) : Calls Try.prog 5 #[.int .i64 i0, .int .i64 i1] w fun e w' => e = .returned (.bool true) ∧ Below w.heap.size w w' := by
  have HB := Lib.hid (Below.refl w.heap.size w)
  go_enter Try.func5, Try.ntmps5
  obtain bd0 := datInOpen_bd i0 i1
  have BD0 := Lib.hid bd0
  have BM0 := Lib.hid (show saDatIn (inOpen i0 i1) ≤ 67108864 by have := smz_DatPiece (inOpen i0 i1).xHave; simp only [saDatIn, zDatIn] at bd0 ⊢; omega)
  clear bd0
  go_wp2_with fail
  refine (specDatInOpen_n i0 i1 _).mono ?_
  rintro e w3 ⟨Wv0, Wf0, rfl, Wo0, Wn, bw3⟩
  have Sw3 := Lib.hid bw3.size
  replace HB := Lib.hid (HB.out.trans (bw3.mono HB.out.size))
  clear bw3
  have WN := Lib.hid Wn
  clear Wn
  have W0 := Lib.hid Wo0
  obtain ⟨Wu0_2, Wu0_3, Wu0_4, Wg0_2, Wg0_3, Wg0_4, rfl, Wp0_2, Wp0_3, Wp0_4, rfl⟩ := Wo0
  obtain ⟨W0A2, W0c2, rfl⟩ :=  Wp0_2.rd.slice
  clear Wp0_2
  obtain ⟨W0A3, W0c3, rfl⟩ := OwL.slice Wp0_3
  clear Wp0_3
  obtain ⟨W0A4, W0c4, rfl⟩ :=  Wp0_4.rd.slice
  clear Wp0_4
  have WB0 := Lib.hid (Blk.new (w := w3) (b := w3.heap.size) #[.int .i64 (inOpen i0 i1).xStreams, .int .i64 (inOpen i0 i1).xCum, .slice W0A2 (inOpen i0 i1).xSeen.length W0c2, .slice W0A3 (inOpen i0 i1).xHave.length W0c3, .slice W0A4 (inOpen i0 i1).xSsns.length W0c4] 37 rfl)
  have bx := (Below.refl w3.heap.size w3).alloc (Nat.le_refl _) (.cells #[.int .i64 (inOpen i0 i1).xStreams, .int .i64 (inOpen i0 i1).xCum, .slice W0A2 (inOpen i0 i1).xSeen.length W0c2, .slice W0A3 (inOpen i0 i1).xHave.length W0c3, .slice W0A4 (inOpen i0 i1).xSsns.length W0c4] 37)
  replace W0 := Lib.hid (EDatIn.framed _ _ _ _ _ W0.out (fun b hb => bx.block b (EDatIn.inside _ _ _ _ W0.out b hb)))
  replace HB := Lib.hid (HB.out.trans (bx.mono HB.out.size))
  clear bx
  have SW0 := Lib.hid (show w3.heap.size + 1 = (World.alloc w3 (.cells #[.int .i64 (inOpen i0 i1).xStreams, .int .i64 (inOpen i0 i1).xCum, .slice W0A2 (inOpen i0 i1).xSeen.length W0c2, .slice W0A3 (inOpen i0 i1).xHave.length W0c3, .slice W0A4 (inOpen i0 i1).xSsns.length W0c4] 37)).heap.size by simp)
  go_wp2_with fail
  refine (implDatInOpen_n i0 i1 _).mono ?_
  rintro e w5 ⟨Gv0, Gf0, rfl, Go0, Gn, bw5⟩
  have Sw5 := Lib.hid bw5.size
  replace W0 := Lib.hid (EDatIn.framed _ _ _ _ _ W0.out (fun b hb => bw5.block b (EDatIn.inside _ _ _ _ W0.out b hb)))
  replace WB0 := Lib.hid (WB0.out.keep bw5)
  replace HB := Lib.hid (HB.out.trans (bw5.mono HB.out.size))
  clear bw5
  have GN := Lib.hid Gn
  clear Gn
  have G0 := Lib.hid Go0
  obtain ⟨Gu0_2, Gu0_3, Gu0_4, Gg0_2, Gg0_3, Gg0_4, rfl, Gp0_2, Gp0_3, Gp0_4, rfl⟩ := Go0
  obtain ⟨G0A2, G0c2, rfl⟩ :=  Gp0_2.rd.slice
  clear Gp0_2
  obtain ⟨G0A3, G0c3, rfl⟩ := OwL.slice Gp0_3
  clear Gp0_3
  obtain ⟨G0A4, G0c4, rfl⟩ :=  Gp0_4.rd.slice
  clear Gp0_4
  have GB0 := Lib.hid (Blk.new (w := w5) (b := w5.heap.size) #[.int .i64 (inOpen i0 i1).xStreams, .int .i64 (inOpen i0 i1).xCum, .slice G0A2 (inOpen i0 i1).xSeen.length G0c2, .slice G0A3 (inOpen i0 i1).xHave.length G0c3, .slice G0A4 (inOpen i0 i1).xSsns.length G0c4] 37 rfl)
  have bx := (Below.refl w5.heap.size w5).alloc (Nat.le_refl _) (.cells #[.int .i64 (inOpen i0 i1).xStreams, .int .i64 (inOpen i0 i1).xCum, .slice G0A2 (inOpen i0 i1).xSeen.length G0c2, .slice G0A3 (inOpen i0 i1).xHave.length G0c3, .slice G0A4 (inOpen i0 i1).xSsns.length G0c4] 37)
  replace W0 := Lib.hid (EDatIn.framed _ _ _ _ _ W0.out (fun b hb => bx.block b (EDatIn.inside _ _ _ _ W0.out b hb)))
  replace WB0 := Lib.hid (WB0.out.keep bx)
  replace G0 := Lib.hid (EDatIn.framed _ _ _ _ _ G0.out (fun b hb => bx.block b (EDatIn.inside _ _ _ _ G0.out b hb)))
  replace HB := Lib.hid (HB.out.trans (bx.mono HB.out.size))
  clear bx
  have SG0 := Lib.hid (show w5.heap.size + 1 = (World.alloc w5 (.cells #[.int .i64 (inOpen i0 i1).xStreams, .int .i64 (inOpen i0 i1).xCum, .slice G0A2 (inOpen i0 i1).xSeen.length G0c2, .slice G0A3 (inOpen i0 i1).xHave.length G0c3, .slice G0A4 (inOpen i0 i1).xSsns.length G0c4] 37)).heap.size by simp)
  have ea0 := GB0.out.at (i := 0) rfl
  have ea1 := GB0.out.at (i := 1) rfl
  have ea2 := GB0.out.at (i := 2) rfl
  have ea3 := GB0.out.at (i := 3) rfl
  have ea4 := GB0.out.at (i := 4) rfl
  have eb0 := WB0.out.at (i := 0) rfl
  have eb1 := WB0.out.at (i := 1) rfl
  have eb2 := WB0.out.at (i := 2) rfl
  have eb3 := WB0.out.at (i := 3) rfl
  have eb4 := WB0.out.at (i := 4) rfl
  go_wp2_with fail
  refine (eqDatIn_s _ _ (inOpen i0 i1) _ G0.out.rd W0.out.rd BD0.out).mono ?_
  rintro e we1 ⟨rfl, bwe1⟩
  have Swe1 := Lib.hid bwe1.size
  replace W0 := Lib.hid (EDatIn.framed _ _ _ _ _ W0.out (fun b hb => bwe1.block b (EDatIn.inside _ _ _ _ W0.out b hb)))
  replace WB0 := Lib.hid (WB0.out.keep bwe1)
  replace G0 := Lib.hid (EDatIn.framed _ _ _ _ _ G0.out (fun b hb => bwe1.block b (EDatIn.inside _ _ _ _ G0.out b hb)))
  replace GB0 := Lib.hid (GB0.out.keep bwe1)
  replace HB := Lib.hid (HB.out.trans (bwe1.mono HB.out.size))
  clear bwe1
  clear ea0 ea1 ea2 ea3 ea4
  clear eb0 eb1 eb2 eb3 eb4
  have pg0 := GB0.out.at (i := 0) rfl
  have pg1 := GB0.out.at (i := 1) rfl
  have pg2 := GB0.out.at (i := 2) rfl
  have pg3 := GB0.out.at (i := 3) rfl
  have pg4 := GB0.out.at (i := 4) rfl
  go_wp2_with fail
  refine (markDatIn_m (Gg0_2 ++ Gg0_3 ++ Gg0_4) _ (1) (inOpen i0 i1) _ G0.out GN.out.1 (by omega) (by have := BM0.out; omega)).mono ?_
  rintro e wm0 ⟨rfl, owm0, rwm0⟩
  have Swm0 := Lib.hid rwm0.size
  replace W0 := Lib.hid (EDatIn.framed _ _ _ _ _ W0.out (fun b hb => rwm0.block b (EDatIn.inside _ _ _ _ W0.out b hb) ((WN.out.far GN.out (by have := Sw3.out; have := SW0.out; have := Sw5.out; have := SG0.out; have := Swe1.out; have := Swm0.out; first | omega | (simp; omega))) b hb)))
  replace WB0 := Lib.hid (WB0.out.frl rwm0 (GN.out.notin (by have := Sw3.out; have := SW0.out; have := Sw5.out; have := SG0.out; have := Swe1.out; have := Swm0.out; first | omega | (simp; omega))))
  replace GB0 := Lib.hid (GB0.out.frl rwm0 (GN.out.notin (by have := Sw3.out; have := SW0.out; have := Sw5.out; have := SG0.out; have := Swe1.out; have := Swm0.out; first | omega | (simp; omega))))
  replace HB := Lib.hid (HB.out.trans (rwm0.belowNw GN.out (by have := Sw3.out; have := SW0.out; have := Sw5.out; have := SG0.out; have := Swe1.out; have := Swm0.out; first | omega | (simp; omega)) HB.out.size))
  replace G0 := Lib.hid owm0
  clear owm0 rwm0
  clear pg0 pg1 pg2 pg3 pg4
  have pg0 := GB0.out.at (i := 0) rfl
  have pg1 := GB0.out.at (i := 1) rfl
  have pg2 := GB0.out.at (i := 2) rfl
  have pg3 := GB0.out.at (i := 3) rfl
  have pg4 := GB0.out.at (i := 4) rfl
  go_wp2_with fail
  refine (heldDatIn_h _ (1) (inOpen i0 i1) _ G0.out.rd (by omega) (by have := BM0.out; omega)).mono ?_
  rintro e wh1 ⟨rfl, bwh1⟩
  have Swh1 := Lib.hid bwh1.size
  replace W0 := Lib.hid (EDatIn.framed _ _ _ _ _ W0.out (fun b hb => bwh1.block b (EDatIn.inside _ _ _ _ W0.out b hb)))
  replace WB0 := Lib.hid (WB0.out.keep bwh1)
  replace G0 := Lib.hid (EDatIn.framed _ _ _ _ _ G0.out (fun b hb => bwh1.block b (EDatIn.inside _ _ _ _ G0.out b hb)))
  replace GB0 := Lib.hid (GB0.out.keep bwh1)
  replace HB := Lib.hid (HB.out.trans (bwh1.mono HB.out.size))
  clear bwh1
  clear pg0 pg1 pg2 pg3 pg4
  go_wp2_with fail
  refine (implDatInOpen_n i0 i1 _).mono ?_
  rintro e w10 ⟨Hv0, Hf0, rfl, Ho0, Hn, bw10⟩
  have Sw10 := Lib.hid bw10.size
  replace W0 := Lib.hid (EDatIn.framed _ _ _ _ _ W0.out (fun b hb => bw10.block b (EDatIn.inside _ _ _ _ W0.out b hb)))
  replace WB0 := Lib.hid (WB0.out.keep bw10)
  replace G0 := Lib.hid (EDatIn.framed _ _ _ _ _ G0.out (fun b hb => bw10.block b (EDatIn.inside _ _ _ _ G0.out b hb)))
  replace GB0 := Lib.hid (GB0.out.keep bw10)
  replace HB := Lib.hid (HB.out.trans (bw10.mono HB.out.size))
  clear bw10
  have HN := Lib.hid Hn
  clear Hn
  have H0 := Lib.hid Ho0
  obtain ⟨Hu0_2, Hu0_3, Hu0_4, Hg0_2, Hg0_3, Hg0_4, rfl, Hp0_2, Hp0_3, Hp0_4, rfl⟩ := Ho0
  obtain ⟨H0A2, H0c2, rfl⟩ :=  Hp0_2.rd.slice
  clear Hp0_2
  obtain ⟨H0A3, H0c3, rfl⟩ := OwL.slice Hp0_3
  clear Hp0_3
  obtain ⟨H0A4, H0c4, rfl⟩ :=  Hp0_4.rd.slice
  clear Hp0_4
  have HB0 := Lib.hid (Blk.new (w := w10) (b := w10.heap.size) #[.int .i64 (inOpen i0 i1).xStreams, .int .i64 (inOpen i0 i1).xCum, .slice H0A2 (inOpen i0 i1).xSeen.length H0c2, .slice H0A3 (inOpen i0 i1).xHave.length H0c3, .slice H0A4 (inOpen i0 i1).xSsns.length H0c4] 37 rfl)
  have bx := (Below.refl w10.heap.size w10).alloc (Nat.le_refl _) (.cells #[.int .i64 (inOpen i0 i1).xStreams, .int .i64 (inOpen i0 i1).xCum, .slice H0A2 (inOpen i0 i1).xSeen.length H0c2, .slice H0A3 (inOpen i0 i1).xHave.length H0c3, .slice H0A4 (inOpen i0 i1).xSsns.length H0c4] 37)
  replace W0 := Lib.hid (EDatIn.framed _ _ _ _ _ W0.out (fun b hb => bx.block b (EDatIn.inside _ _ _ _ W0.out b hb)))
  replace WB0 := Lib.hid (WB0.out.keep bx)
  replace G0 := Lib.hid (EDatIn.framed _ _ _ _ _ G0.out (fun b hb => bx.block b (EDatIn.inside _ _ _ _ G0.out b hb)))
  replace GB0 := Lib.hid (GB0.out.keep bx)
  replace H0 := Lib.hid (EDatIn.framed _ _ _ _ _ H0.out (fun b hb => bx.block b (EDatIn.inside _ _ _ _ H0.out b hb)))
  replace HB := Lib.hid (HB.out.trans (bx.mono HB.out.size))
  clear bx
  have SH0 := Lib.hid (show w10.heap.size + 1 = (World.alloc w10 (.cells #[.int .i64 (inOpen i0 i1).xStreams, .int .i64 (inOpen i0 i1).xCum, .slice H0A2 (inOpen i0 i1).xSeen.length H0c2, .slice H0A3 (inOpen i0 i1).xHave.length H0c3, .slice H0A4 (inOpen i0 i1).xSsns.length H0c4] 37)).heap.size by simp)
  have ea0 := HB0.out.at (i := 0) rfl
  have ea1 := HB0.out.at (i := 1) rfl
  have ea2 := HB0.out.at (i := 2) rfl
  have ea3 := HB0.out.at (i := 3) rfl
  have ea4 := HB0.out.at (i := 4) rfl
  have eb0 := WB0.out.at (i := 0) rfl
  have eb1 := WB0.out.at (i := 1) rfl
  have eb2 := WB0.out.at (i := 2) rfl
  have eb3 := WB0.out.at (i := 3) rfl
  have eb4 := WB0.out.at (i := 4) rfl
  go_wp2_with fail
  refine (eqDatIn_s _ _ (inOpen i0 i1) _ H0.out.rd W0.out.rd BD0.out).mono ?_
  rintro e we2 ⟨rfl, bwe2⟩
  have Swe2 := Lib.hid bwe2.size
  replace W0 := Lib.hid (EDatIn.framed _ _ _ _ _ W0.out (fun b hb => bwe2.block b (EDatIn.inside _ _ _ _ W0.out b hb)))
  replace WB0 := Lib.hid (WB0.out.keep bwe2)
  replace G0 := Lib.hid (EDatIn.framed _ _ _ _ _ G0.out (fun b hb => bwe2.block b (EDatIn.inside _ _ _ _ G0.out b hb)))
  replace GB0 := Lib.hid (GB0.out.keep bwe2)
  replace H0 := Lib.hid (EDatIn.framed _ _ _ _ _ H0.out (fun b hb => bwe2.block b (EDatIn.inside _ _ _ _ H0.out b hb)))
  replace HB0 := Lib.hid (HB0.out.keep bwe2)
  replace HB := Lib.hid (HB.out.trans (bwe2.mono HB.out.size))
  clear bwe2
  clear ea0 ea1 ea2 ea3 ea4
  clear eb0 eb1 eb2 eb3 eb4
  have pg0 := GB0.out.at (i := 0) rfl
  have pg1 := GB0.out.at (i := 1) rfl
  have pg2 := GB0.out.at (i := 2) rfl
  have pg3 := GB0.out.at (i := 3) rfl
  have pg4 := GB0.out.at (i := 4) rfl
  go_wp2_with fail
  refine (heldDatIn_h _ (1) (inOpen i0 i1) _ G0.out.rd (by omega) (by have := BM0.out; omega)).mono ?_
  rintro e wh2 ⟨rfl, bwh2⟩
  have Swh2 := Lib.hid bwh2.size
  replace W0 := Lib.hid (EDatIn.framed _ _ _ _ _ W0.out (fun b hb => bwh2.block b (EDatIn.inside _ _ _ _ W0.out b hb)))
  replace WB0 := Lib.hid (WB0.out.keep bwh2)
  replace G0 := Lib.hid (EDatIn.framed _ _ _ _ _ G0.out (fun b hb => bwh2.block b (EDatIn.inside _ _ _ _ G0.out b hb)))
  replace GB0 := Lib.hid (GB0.out.keep bwh2)
  replace H0 := Lib.hid (EDatIn.framed _ _ _ _ _ H0.out (fun b hb => bwh2.block b (EDatIn.inside _ _ _ _ H0.out b hb)))
  replace HB0 := Lib.hid (HB0.out.keep bwh2)
  replace HB := Lib.hid (HB.out.trans (bwh2.mono HB.out.size))
  clear bwh2
  clear pg0 pg1 pg2 pg3 pg4
  go_wp2
  go_ret
  exact ⟨rfl, HB.out⟩
set_option maxRecDepth 100000 in
theorem datInOpen_lifted (os : Os) (started : os.Started) (H : Type) (enc : TypeId × Value → H) :
    ReturnsInHanded {} Try.checked os 5 .any (Rows.fnExactDatInOpenSpec.pre6 enc Try.prog Try.f5 Rows.fnExactDatInOpenRow.domain false) (Rows.fnExactDatInOpenSpec.post enc Try.prog Try.f5 false true false false) := by
  refine returnsInHanded_of_change (C := Try.checked) ownKnob_none started (by kernel_rfl) Try.func5
    (ChangeSpec.witness6 (enc := enc) (C := Try.checked) false ⟨#[], #[.int .i64 0, .int .i64 0], []⟩ 8 (by kernel_rfl) (by kernel_rfl) (by kernel_rfl) (by kernel_rfl)) ?_
  intro W base args ds gs before hval hW _ _
  have hW' := hW
  obtain ⟨p, q, hA, _⟩ := hW
  have hA' : DataW.TrodAll enc Try.prog W 0 (fun _ => true) true [3, 3] args.toList ds p := hA
  obtain ⟨v0, vs0, d0, ds0, p0, q0, hargs, rfl, rfl, h0, r0⟩ := trodAll_cons hA'
  obtain ⟨v1, vs1, d1, ds1, p1, q1, rfl, rfl, rfl, h1, r1⟩ := trodAll_cons r0
  obtain ⟨rfl, rfl, rfl⟩ := trodAll_nil r1
  obtain rfl : args = #[v0, v1] := by cases args; simp_all
  obtain ⟨a0, rfl, rfl, rfl, w0⟩ := open_int Try.underlying3 (hval 0 3 v0 rfl rfl) h0
  obtain ⟨a1, rfl, rfl, rfl, w1⟩ := open_int Try.underlying3 (hval 1 3 v1 rfl rfl) h1
  refine (lawDatInOpen a0 a1 W).mono fun e W' ⟨he, hb⟩ => ?_
  subst he
  exact ⟨_, rfl, law_post (tb := 4) laidOut (by decide +kernel) rfl rfl Try.underlying4 (by rintro _ rfl; rfl) hW' hb⟩

theorem datInOpen_proved : Rows.FnExactDatInOpenSaid :=
  OpenClaim.holds_of_wide 5 Try.f5 rfl rfl rfl rfl rfl rfl rfl ⟨rfl, rfl, rfl, rfl, rfl⟩ rfl rfl rfl rfl rfl (by kernel_rfl) Try.func5 datInOpen_closed
    (of_decide_eq_true (by kernel_rfl)) (by unfold Func.isWrapper; first | (rw [if_pos (by decide +kernel)]; kernel_rfl) | (rw [if_neg (by decide +kernel)]; exact ⟨rfl, rfl⟩))
    (fun os started H enc _ => datInOpen_lifted os started H enc)
#print axioms datInOpen_proved
end Go.Proofs.Ytcflkcjicaieeaa
