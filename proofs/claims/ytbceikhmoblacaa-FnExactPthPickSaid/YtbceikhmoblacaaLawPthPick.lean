/-
  PthPick of the program answers at every argument as the model's PthPick, writes nothing into its arguments, and its answer is memory of its own (Rows.FnExactPthPickSaid). No condition. (Written by wip/tools/genlawx.py.)
-/
import Derived.Test.YtbceikhmoblacaaPick
import Derived.Test.YtbceikhmoblacaaClPthPick
import Derived.Test.YtbceikhmoblacaaTyPthWay
import Derived.Test.YtbceikhmoblacaaAppI
import Derived.Test.YtbceikhmoblacaaRow
import Derived.ChangeSame
import Derived.Deep.RegionHeld3
namespace Go.Proofs.Ytbceikhmoblacaa
open Go.ChangeShapes Go.WideShapes Go.ChangeAt Go.RowKit
set_option linter.unusedVariables false
set_option linter.unusedSimpArgs false

set_option maxRecDepth 100000 in
set_option maxHeartbeats 8000000 in
theorem lawPthPick (v0 : Value) (ws : List DPthWay) (p : Int) (w : World) (h0 : RdPthWayS w v0 ws) : Calls Try.prog 4 #[v0, .int .i64 p] w fun e w' => e = .returned (.bool true) ∧ Below w.heap.size w w' := by
  obtain ⟨A0, c0, rfl⟩ := id (RdS.slice h0)
  have R0 := Lib.hid h0
  clear h0
  have HB := Lib.hid (Below.refl w.heap.size w)
  go_enter Try.func4, Try.ntmps4
  go_wp2_with fail
  refine (szPthWayS_z _ ws _ _ (R0.out.below HB.out) ⟨by omega, by omega⟩).mono ?_
  rintro e ws0 ⟨rfl, bs0⟩
  replace HB := Lib.hid (HB.out.trans (bs0.mono HB.out.size))
  clear bs0
  have hr0 := szR_cases 1048576 (ws.length) (by omega)
  generalize szR 1048576 (ws.length) = r0 at *
  rcases hr0 with ⟨rfl, _⟩ | ⟨hr0, _, ht0⟩
  · go_wp2
    go_ret
    exact ⟨rfl, HB.out⟩
  have N0 := Lib.hid (show ws.length ≤ 1048576 by omega)
  clear ht0
  go_wp2_with fail
  refine (toPthWayS_n _ ws _ (R0.out.below HB.out) N0.out).mono ?_
  rintro e wt1 ⟨Uv0, Uf0, rfl, Uo0, Un0, bwt1⟩
  have Swt1 := Lib.hid bwt1.size
  replace HB := Lib.hid (HB.out.trans (bwt1.mono HB.out.size))
  have U0 := Lib.hid Uo0.rd
  clear Uo0 Un0 bwt1
  go_wp2_with fail
  refine (specPthPick_n _ ws p _ U0.out N0.out).mono ?_
  rintro e w3 ⟨rfl, bw3⟩
  replace U0 := Lib.hid (U0.out.below bw3)
  replace HB := Lib.hid (HB.out.trans (bw3.mono HB.out.size))
  clear bw3
  clear U0
  go_wp2_with fail
  refine (toPthWayS_n _ ws _ (R0.out.below HB.out) N0.out).mono ?_
  rintro e wt2 ⟨Xv0, Xf0, rfl, Xo0, Xn0, bwt2⟩
  have Swt2 := Lib.hid bwt2.size
  replace HB := Lib.hid (HB.out.trans (bwt2.mono HB.out.size))
  have X0 := Lib.hid Xo0.rd
  clear Xo0 Xn0 bwt2
  go_wp2_with fail
  refine (implPthPick_n _ ws p _ X0.out N0.out).mono ?_
  rintro e w5 ⟨rfl, bw5⟩
  replace X0 := Lib.hid (X0.out.below bw5)
  replace HB := Lib.hid (HB.out.trans (bw5.mono HB.out.size))
  clear bw5
  go_wp2_with fail
  refine (toPthWayS_n _ ws _ (R0.out.below HB.out) N0.out).mono ?_
  rintro e wt3 ⟨Yv0, Yf0, rfl, Yo0, Yn0, bwt3⟩
  have Swt3 := Lib.hid bwt3.size
  replace X0 := Lib.hid (X0.out.below bwt3)
  replace HB := Lib.hid (HB.out.trans (bwt3.mono HB.out.size))
  have Y0 := Lib.hid Yo0.rd
  clear Yo0 Yn0 bwt3
  go_wp2_with fail
  refine (eqPthWayS_s _ _ ws _ X0.out Y0.out N0.out).mono ?_
  rintro e we1 ⟨rfl, bwe1⟩
  have Swe1 := Lib.hid bwe1.size
  replace X0 := Lib.hid (X0.out.below bwe1)
  replace Y0 := Lib.hid (Y0.out.below bwe1)
  replace HB := Lib.hid (HB.out.trans (bwe1.mono HB.out.size))
  clear bwe1
  clear Y0
  go_wp2
  go_ret
  exact ⟨rfl, HB.out⟩
set_option maxRecDepth 100000 in
theorem pthPick_lifted (os : Os) (started : os.Started) (H : Type) (enc : TypeId × Value → H) :
    ReturnsInHanded {} Try.checked os 4 .any (Rows.fnExactPthPickSpec.pre6 enc Try.prog Try.f4 Rows.fnExactPthPickRow.domain false) (Rows.fnExactPthPickSpec.post enc Try.prog Try.f4 false true false false) := by
  refine returnsInHanded_of_change (C := Try.checked) ownKnob_none started (by kernel_rfl) Try.func4
    (ChangeSpec.witness6 (enc := enc) (C := Try.checked) false ⟨#[], #[.slice none 0 0, .int .i64 0], []⟩ 8 (by kernel_rfl) (by kernel_rfl) (by kernel_rfl) (by kernel_rfl)) ?_
  intro W base args ds gs before hval hW _ _
  have hW' := hW
  obtain ⟨p, q, hA, _⟩ := hW
  have hA' : DataW.TrodAll enc Try.prog W 0 (fun _ => true) true [27, 3] args.toList ds p := hA
  obtain ⟨v0, vs0, d0, ds0, p0, q0, hargs, rfl, rfl, h0, r0⟩ := trodAll_cons hA'
  obtain ⟨v1, vs1, d1, ds1, p1, q1, rfl, rfl, rfl, h1, r1⟩ := trodAll_cons r0
  obtain ⟨rfl, rfl, rfl⟩ := trodAll_nil r1
  obtain rfl : args = #[v0, v1] := by cases args; simp_all
  obtain ⟨A0, k0, c0, rfl⟩ := okWide_slice Try.underlying27 (hval 0 27 v0 rfl rfl)
  obtain ⟨fuel0, hf0⟩ := h0
  simp only [Value.cells] at hf0
  obtain ⟨x0, hx0⟩ := open_rds Try.underlying27 cells_PthWay (fun n cs y hc h => read_PthWay n cs y hc h) hf0
  obtain ⟨a1, rfl, rfl, rfl, w1⟩ := open_int Try.underlying3 (hval 1 3 v1 rfl rfl) h1
  refine (lawPthPick _ x0 a1 W hx0).mono fun e W' ⟨he, hb⟩ => ?_
  subst he
  exact ⟨_, rfl, law_post (tb := 4) laidOut (by decide +kernel) rfl rfl Try.underlying4 (by rintro _ rfl; rfl) hW' hb⟩

theorem pthPick_proved : Rows.FnExactPthPickSaid :=
  OpenClaim.holds_of_wide 4 Try.f4 rfl rfl rfl rfl rfl rfl rfl ⟨rfl, rfl, rfl, rfl, rfl⟩ rfl rfl rfl rfl rfl (by kernel_rfl) Try.func4 pthPick_closed
    (of_decide_eq_true (by kernel_rfl)) (by unfold Func.isWrapper; first | (rw [if_pos (by decide +kernel)]; kernel_rfl) | (rw [if_neg (by decide +kernel)]; exact ⟨rfl, rfl⟩))
    (fun os started H enc _ => pthPick_lifted os started H enc)
#print axioms pthPick_proved
end Go.Proofs.Ytbceikhmoblacaa
