/-
  AscBake of the program answers at every argument as the model's AscBake, writes nothing into its arguments, and its answer is memory of its own (Rows.FnExactAscBakeSaid). No condition. (Written by wip/tools/genlawx.py.)
-/
import Derived.Test.YtbceikhmoblacaaBakeS
import Derived.Test.YtbceikhmoblacaaBakeI
import Derived.Test.YtbceikhmoblacaaClAscBake
import Derived.Test.YtbceikhmoblacaaTyAscCookie
import Derived.Test.YtbceikhmoblacaaAppI
import Derived.Test.YtbceikhmoblacaaRow
import Derived.ChangeSame
import Derived.Deep.RegionHeld3
namespace Go.Proofs.Ytbceikhmoblacaa
open Go.ChangeShapes Go.WideShapes Go.ChangeAt Go.RowKit
set_option linter.unusedVariables false
set_option linter.unusedSimpArgs false

set_option maxRecDepth 100000 in
set_option maxHeartbeats 8000000 in
theorem lawAscBake (s : Int) (x : DAscCookie) (w : World) : Calls Try.prog 6 #[.int .i64 s, .agg #[.int .i64 x.xMe, .int .i64 x.xPeer, .int .i64 x.xTag, .int .i64 x.xPeerTag, .int .i64 x.xTsn, .int .i64 x.xPeerTsn, .int .i64 x.xStreams, .int .i64 x.xMade, .int .i64 x.xOldTag, .int .i64 x.xOldPeerTag, .int .i64 x.xMac]] w fun e w' => e = .returned (.bool true) ∧ Below w.heap.size w w' := by
  have HB := Lib.hid ((Below.refl w.heap.size w).alloc (Nat.le_refl _) (.cells #[.int .i64 x.xMe, .int .i64 x.xPeer, .int .i64 x.xTag, .int .i64 x.xPeerTag, .int .i64 x.xTsn, .int .i64 x.xPeerTsn, .int .i64 x.xStreams, .int .i64 x.xMade, .int .i64 x.xOldTag, .int .i64 x.xOldPeerTag, .int .i64 x.xMac] 47))
  have K1 := Lib.hid (Blk.new (w := w) (b := w.heap.size) #[.int .i64 x.xMe, .int .i64 x.xPeer, .int .i64 x.xTag, .int .i64 x.xPeerTag, .int .i64 x.xTsn, .int .i64 x.xPeerTsn, .int .i64 x.xStreams, .int .i64 x.xMade, .int .i64 x.xOldTag, .int .i64 x.xOldPeerTag, .int .i64 x.xMac] 47 rfl)
  have WK1 := Lib.hid K1.out.lt
  go_enter Try.func6, Try.ntmps6
  obtain bd0 := ascBake_bd s x 
  have BD0 := Lib.hid bd0
  have BM0 := Lib.hid (show (bakeF s x).length ≤ 67108864 by omega)
  clear bd0
  have pc1_0 := K1.out.at (i := 0) rfl
  have pc1_1 := K1.out.at (i := 1) rfl
  have pc1_2 := K1.out.at (i := 2) rfl
  have pc1_3 := K1.out.at (i := 3) rfl
  have pc1_4 := K1.out.at (i := 4) rfl
  have pc1_5 := K1.out.at (i := 5) rfl
  have pc1_6 := K1.out.at (i := 6) rfl
  have pc1_7 := K1.out.at (i := 7) rfl
  have pc1_8 := K1.out.at (i := 8) rfl
  have pc1_9 := K1.out.at (i := 9) rfl
  have pc1_10 := K1.out.at (i := 10) rfl
  go_wp2_with fail
  refine (toAscCookie_n _ x _ rfl).mono ?_
  rintro e wt1 ⟨cswt1, fwt1, rfl, owt1, nwt1, bwt1⟩
  obtain ⟨rfl, rfl⟩ := owt1
  have Swt1 := Lib.hid bwt1.size
  replace K1 := Lib.hid (K1.out.keep bwt1)
  replace HB := Lib.hid (HB.out.trans (bwt1.mono HB.out.size))
  clear pc1_0 pc1_1 pc1_2 pc1_3 pc1_4 pc1_5 pc1_6 pc1_7 pc1_8 pc1_9 pc1_10
  clear bwt1 nwt1
  go_wp2_with fail
  refine (specAscBake_n s x _).mono ?_
  rintro e w3 ⟨Wv0, Wf0, rfl, Wo0, Wn, bw3⟩
  have Sw3 := Lib.hid bw3.size
  replace K1 := Lib.hid (K1.out.keep bw3)
  replace HB := Lib.hid (HB.out.trans (bw3.mono HB.out.size))
  clear bw3
  have WN := Lib.hid Wn
  clear Wn
  have W0 := Lib.hid Wo0
  clear Wo0
  have pc1_0 := K1.out.at (i := 0) rfl
  have pc1_1 := K1.out.at (i := 1) rfl
  have pc1_2 := K1.out.at (i := 2) rfl
  have pc1_3 := K1.out.at (i := 3) rfl
  have pc1_4 := K1.out.at (i := 4) rfl
  have pc1_5 := K1.out.at (i := 5) rfl
  have pc1_6 := K1.out.at (i := 6) rfl
  have pc1_7 := K1.out.at (i := 7) rfl
  have pc1_8 := K1.out.at (i := 8) rfl
  have pc1_9 := K1.out.at (i := 9) rfl
  have pc1_10 := K1.out.at (i := 10) rfl
  go_wp2_with fail
  refine (toAscCookie_n _ x _ rfl).mono ?_
  rintro e wt2 ⟨cswt2, fwt2, rfl, owt2, nwt2, bwt2⟩
  obtain ⟨rfl, rfl⟩ := owt2
  have Swt2 := Lib.hid bwt2.size
  replace K1 := Lib.hid (K1.out.keep bwt2)
  replace W0 := Lib.hid (W0.out.keep (fun b hb => bwt2.block b (W0.out.inside b hb)))
  replace HB := Lib.hid (HB.out.trans (bwt2.mono HB.out.size))
  clear pc1_0 pc1_1 pc1_2 pc1_3 pc1_4 pc1_5 pc1_6 pc1_7 pc1_8 pc1_9 pc1_10
  clear bwt2 nwt2
  go_wp2_with fail
  refine (implAscBake_n s x _).mono ?_
  rintro e w5 ⟨Gv0, Gf0, rfl, Go0, Gn, bw5⟩
  have Sw5 := Lib.hid bw5.size
  replace K1 := Lib.hid (K1.out.keep bw5)
  replace W0 := Lib.hid (W0.out.keep (fun b hb => bw5.block b (W0.out.inside b hb)))
  replace HB := Lib.hid (HB.out.trans (bw5.mono HB.out.size))
  clear bw5
  have GN := Lib.hid Gn
  clear Gn
  have G0 := Lib.hid Go0
  clear Go0
  go_wp2_with fail
  refine (eqByteS_s _ _ (bakeF s x) _ G0.out.rd W0.out.rd BD0.out).mono ?_
  rintro e we1 ⟨rfl, bwe1⟩
  have Swe1 := Lib.hid bwe1.size
  replace K1 := Lib.hid (K1.out.keep bwe1)
  replace W0 := Lib.hid (W0.out.keep (fun b hb => bwe1.block b (W0.out.inside b hb)))
  replace G0 := Lib.hid (G0.out.keep (fun b hb => bwe1.block b (G0.out.inside b hb)))
  replace HB := Lib.hid (HB.out.trans (bwe1.mono HB.out.size))
  clear bwe1
  go_wp2_with fail
  refine (markByteS_m Gf0 _ (1) (bakeF s x) _ G0.out (by have := BM0.out; omega) ⟨by omega, by have := BM0.out; omega⟩).mono ?_
  rintro e wm0 ⟨rfl, owm0, rwm0⟩
  have Swm0 := Lib.hid rwm0.size
  replace K1 := Lib.hid (K1.out.frl rwm0 (GN.out.notin (by have := WK1.out; have := Swt1.out; have := Sw3.out; have := Swt2.out; have := Sw5.out; have := Swe1.out; have := Swm0.out; first | omega | (simp; omega))))
  replace W0 := Lib.hid (W0.out.keep (fun b hb => rwm0.block b (W0.out.inside b hb) ((WN.out.far GN.out (by have := WK1.out; have := Swt1.out; have := Sw3.out; have := Swt2.out; have := Sw5.out; have := Swe1.out; have := Swm0.out; first | omega | (simp; omega))) b hb)))
  replace HB := Lib.hid (HB.out.trans (rwm0.belowNw GN.out (by have := WK1.out; have := Swt1.out; have := Sw3.out; have := Swt2.out; have := Sw5.out; have := Swe1.out; have := Swm0.out; first | omega | (simp; omega)) HB.out.size))
  replace G0 := Lib.hid owm0
  clear owm0 rwm0
  go_wp2_with fail
  refine (heldByteS_h _ (1) (bakeF s x).length _ G0.out.rd (by have := BM0.out; omega) ⟨by omega, by have := BM0.out; omega⟩).mono ?_
  rintro e wh1 ⟨rfl, bwh1⟩
  have Swh1 := Lib.hid bwh1.size
  replace K1 := Lib.hid (K1.out.keep bwh1)
  replace W0 := Lib.hid (W0.out.keep (fun b hb => bwh1.block b (W0.out.inside b hb)))
  replace G0 := Lib.hid (G0.out.keep (fun b hb => bwh1.block b (G0.out.inside b hb)))
  replace HB := Lib.hid (HB.out.trans (bwh1.mono HB.out.size))
  clear bwh1
  have pc1_0 := K1.out.at (i := 0) rfl
  have pc1_1 := K1.out.at (i := 1) rfl
  have pc1_2 := K1.out.at (i := 2) rfl
  have pc1_3 := K1.out.at (i := 3) rfl
  have pc1_4 := K1.out.at (i := 4) rfl
  have pc1_5 := K1.out.at (i := 5) rfl
  have pc1_6 := K1.out.at (i := 6) rfl
  have pc1_7 := K1.out.at (i := 7) rfl
  have pc1_8 := K1.out.at (i := 8) rfl
  have pc1_9 := K1.out.at (i := 9) rfl
  have pc1_10 := K1.out.at (i := 10) rfl
  go_wp2_with fail
  refine (toAscCookie_n _ x _ rfl).mono ?_
  rintro e wt3 ⟨cswt3, fwt3, rfl, owt3, nwt3, bwt3⟩
  obtain ⟨rfl, rfl⟩ := owt3
  have Swt3 := Lib.hid bwt3.size
  replace K1 := Lib.hid (K1.out.keep bwt3)
  replace W0 := Lib.hid (W0.out.keep (fun b hb => bwt3.block b (W0.out.inside b hb)))
  replace G0 := Lib.hid (G0.out.keep (fun b hb => bwt3.block b (G0.out.inside b hb)))
  replace HB := Lib.hid (HB.out.trans (bwt3.mono HB.out.size))
  clear pc1_0 pc1_1 pc1_2 pc1_3 pc1_4 pc1_5 pc1_6 pc1_7 pc1_8 pc1_9 pc1_10
  clear bwt3 nwt3
  go_wp2_with fail
  refine (implAscBake_n s x _).mono ?_
  rintro e w10 ⟨Hv0, Hf0, rfl, Ho0, Hn, bw10⟩
  have Sw10 := Lib.hid bw10.size
  replace K1 := Lib.hid (K1.out.keep bw10)
  replace W0 := Lib.hid (W0.out.keep (fun b hb => bw10.block b (W0.out.inside b hb)))
  replace G0 := Lib.hid (G0.out.keep (fun b hb => bw10.block b (G0.out.inside b hb)))
  replace HB := Lib.hid (HB.out.trans (bw10.mono HB.out.size))
  clear bw10
  have HN := Lib.hid Hn
  clear Hn
  have H0 := Lib.hid Ho0
  clear Ho0
  go_wp2_with fail
  refine (eqByteS_s _ _ (bakeF s x) _ H0.out.rd W0.out.rd BD0.out).mono ?_
  rintro e we2 ⟨rfl, bwe2⟩
  have Swe2 := Lib.hid bwe2.size
  replace K1 := Lib.hid (K1.out.keep bwe2)
  replace W0 := Lib.hid (W0.out.keep (fun b hb => bwe2.block b (W0.out.inside b hb)))
  replace G0 := Lib.hid (G0.out.keep (fun b hb => bwe2.block b (G0.out.inside b hb)))
  replace H0 := Lib.hid (H0.out.keep (fun b hb => bwe2.block b (H0.out.inside b hb)))
  replace HB := Lib.hid (HB.out.trans (bwe2.mono HB.out.size))
  clear bwe2
  go_wp2_with fail
  refine (heldByteS_h _ (1) (bakeF s x).length _ G0.out.rd (by have := BM0.out; omega) ⟨by omega, by have := BM0.out; omega⟩).mono ?_
  rintro e wh2 ⟨rfl, bwh2⟩
  have Swh2 := Lib.hid bwh2.size
  replace K1 := Lib.hid (K1.out.keep bwh2)
  replace W0 := Lib.hid (W0.out.keep (fun b hb => bwh2.block b (W0.out.inside b hb)))
  replace G0 := Lib.hid (G0.out.keep (fun b hb => bwh2.block b (G0.out.inside b hb)))
  replace H0 := Lib.hid (H0.out.keep (fun b hb => bwh2.block b (H0.out.inside b hb)))
  replace HB := Lib.hid (HB.out.trans (bwh2.mono HB.out.size))
  clear bwh2
  go_wp2
  go_ret
  exact ⟨rfl, HB.out⟩
set_option maxRecDepth 100000 in
theorem ascBake_lifted (os : Os) (started : os.Started) (H : Type) (enc : TypeId × Value → H) :
    ReturnsInHanded {} Try.checked os 6 .any (Rows.fnExactAscBakeSpec.pre6 enc Try.prog Try.f6 Rows.fnExactAscBakeRow.domain false) (Rows.fnExactAscBakeSpec.post enc Try.prog Try.f6 false true false false) := by
  refine returnsInHanded_of_change (C := Try.checked) ownKnob_none started (by kernel_rfl) Try.func6
    (ChangeSpec.witness6 (enc := enc) (C := Try.checked) false ⟨#[], #[.int .i64 0, .agg #[.int .i64 0, .int .i64 0, .int .i64 0, .int .i64 0, .int .i64 0, .int .i64 0, .int .i64 0, .int .i64 0, .int .i64 0, .int .i64 0, .int .i64 0]], []⟩ 8 (by kernel_rfl) (by kernel_rfl) (by kernel_rfl) (by kernel_rfl)) ?_
  intro W base args ds gs before hval hW _ _
  have hW' := hW
  obtain ⟨p, q, hA, _⟩ := hW
  have hA' : DataW.TrodAll enc Try.prog W 0 (fun _ => true) true [3, 47] args.toList ds p := hA
  obtain ⟨v0, vs0, d0, ds0, p0, q0, hargs, rfl, rfl, h0, r0⟩ := trodAll_cons hA'
  obtain ⟨v1, vs1, d1, ds1, p1, q1, rfl, rfl, rfl, h1, r1⟩ := trodAll_cons r0
  obtain ⟨rfl, rfl, rfl⟩ := trodAll_nil r1
  obtain rfl : args = #[v0, v1] := by cases args; simp_all
  obtain ⟨a0, rfl, rfl, rfl, w0⟩ := open_int Try.underlying3 (hval 0 3 v0 rfl rfl) h0
  obtain ⟨cs1, rfl, hcs1⟩ := okWide_struct Try.underlying47 (hval 1 47 v1 rfl rfl)
  rw [cells_AscCookie] at hcs1
  obtain ⟨fuel1, hf1⟩ := h1
  simp only [Value.cells] at hf1
  obtain ⟨x1, hx1⟩ := read_AscCookie _ _ _ (by simpa using hcs1) hf1
  obtain rfl : cs1 = #[.int .i64 x1.xMe, .int .i64 x1.xPeer, .int .i64 x1.xTag, .int .i64 x1.xPeerTag, .int .i64 x1.xTsn, .int .i64 x1.xPeerTsn, .int .i64 x1.xStreams, .int .i64 x1.xMade, .int .i64 x1.xOldTag, .int .i64 x1.xOldPeerTag, .int .i64 x1.xMac] := by rw [← Array.toList_inj]; exact hx1
  refine (lawAscBake a0 x1 W).mono fun e W' ⟨he, hb⟩ => ?_
  subst he
  exact ⟨_, rfl, law_post (tb := 4) laidOut (by decide +kernel) rfl rfl Try.underlying4 (by rintro _ rfl; rfl) hW' hb⟩

theorem ascBake_proved : Rows.FnExactAscBakeSaid :=
  OpenClaim.holds_of_wide 6 Try.f6 rfl rfl rfl rfl rfl rfl rfl ⟨rfl, rfl, rfl, rfl, rfl⟩ rfl rfl rfl rfl rfl (by kernel_rfl) Try.func6 ascBake_closed
    (of_decide_eq_true (by kernel_rfl)) (by unfold Func.isWrapper; first | (rw [if_pos (by decide +kernel)]; kernel_rfl) | (rw [if_neg (by decide +kernel)]; exact ⟨rfl, rfl⟩))
    (fun os started H enc _ => ascBake_lifted os started H enc)
#print axioms ascBake_proved
end Go.Proofs.Ytbceikhmoblacaa
