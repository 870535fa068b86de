/-
  AscTaste of the program answers at every argument as the model's AscTaste, writes nothing into its arguments, and its answer is memory of its own (Rows.FnExactAscTasteSaid). No condition. (Written by wip/tools/genlawx.py.)
-/
import Derived.Test.YtbceikhmoblacaaTasteS
import Derived.Test.YtbceikhmoblacaaTasteI
import Derived.Test.YtbceikhmoblacaaClAscTaste
import Derived.Test.YtbceikhmoblacaaTyAscCookie
import Derived.Test.YtbceikhmoblacaaAppI
import Derived.Test.YtbceikhmoblacaaRow
import Derived.ChangeSame
import Derived.Deep.RegionHeld3
namespace Go.Proofs.Ytbceikhmoblacaa
open Go.ChangeShapes Go.WideShapes Go.ChangeAt Go.RowKit
set_option linter.unusedVariables false
set_option linter.unusedSimpArgs false

set_option maxRecDepth 100000 in
set_option maxHeartbeats 8000000 in
theorem lawAscTaste (s : Int) (me : Int) (pe : Int) (now : Int) (v4 : Value) (b : List UInt8) (w : World) (h4 : RdB w v4 b) : Calls Try.prog 8 #[.int .i64 s, .int .i64 me, .int .i64 pe, .int .i64 now, v4] w fun e w' => e = .returned (.bool true) ∧ Below w.heap.size w w' := by
  obtain ⟨A4, c4, rfl⟩ := id h4.slice
  have R4 := Lib.hid h4
  clear h4
  rcases Nat.lt_or_ge 1048576 b.length with hb | hb
  · generalize b.length = nn at *
    go_enter Try.func8, Try.ntmps8
    go_wp2
    go_ret
    exact ⟨rfl, by repeat first | with_reducible exact Below.refl _ _ | with_reducible refine Below.alloc ?_ (by simp <;> omega) _⟩
  have N4 := Lib.hid hb
  generalize hl4 : b.length = n4 at *
  have L4 := Lib.hid hl4
  clear hl4
  have HB := Lib.hid (Below.refl w.heap.size w)
  go_enter Try.func8, Try.ntmps8
  go_wp2_with fail
  refine (toByteS_n _ b _ (R4.out.below HB.out) (by rw [L4.out]; exact N4.out)).mono ?_
  rintro e wt1 ⟨Uv4, Uf4, rfl, Uo4, Un4, bwt1⟩
  have Swt1 := Lib.hid bwt1.size
  replace HB := Lib.hid (HB.out.trans (bwt1.mono HB.out.size))
  have U4 := Lib.hid Uo4.rd
  clear Uo4 Un4 bwt1
  go_wp2_with fail
  refine (specAscTaste_n s me pe now _ b _ U4.out (by rw [L4.out]; exact N4.out)).mono ?_
  rintro e w3 ⟨rfl, bw3⟩
  replace U4 := Lib.hid (U4.out.below bw3)
  replace HB := Lib.hid (HB.out.trans (bw3.mono HB.out.size))
  clear bw3
  have WB0 := Lib.hid (Blk.new (w := w3) (b := w3.heap.size) #[.int .i64 ((tasteF s me pe now b).1).xMe, .int .i64 ((tasteF s me pe now b).1).xPeer, .int .i64 ((tasteF s me pe now b).1).xTag, .int .i64 ((tasteF s me pe now b).1).xPeerTag, .int .i64 ((tasteF s me pe now b).1).xTsn, .int .i64 ((tasteF s me pe now b).1).xPeerTsn, .int .i64 ((tasteF s me pe now b).1).xStreams, .int .i64 ((tasteF s me pe now b).1).xMade, .int .i64 ((tasteF s me pe now b).1).xOldTag, .int .i64 ((tasteF s me pe now b).1).xOldPeerTag, .int .i64 ((tasteF s me pe now b).1).xMac] 49 rfl)
  have bx := (Below.refl w3.heap.size w3).alloc (Nat.le_refl _) (.cells #[.int .i64 ((tasteF s me pe now b).1).xMe, .int .i64 ((tasteF s me pe now b).1).xPeer, .int .i64 ((tasteF s me pe now b).1).xTag, .int .i64 ((tasteF s me pe now b).1).xPeerTag, .int .i64 ((tasteF s me pe now b).1).xTsn, .int .i64 ((tasteF s me pe now b).1).xPeerTsn, .int .i64 ((tasteF s me pe now b).1).xStreams, .int .i64 ((tasteF s me pe now b).1).xMade, .int .i64 ((tasteF s me pe now b).1).xOldTag, .int .i64 ((tasteF s me pe now b).1).xOldPeerTag, .int .i64 ((tasteF s me pe now b).1).xMac] 49)
  replace U4 := Lib.hid (U4.out.below bx)
  replace HB := Lib.hid (HB.out.trans (bx.mono HB.out.size))
  clear bx
  have SW0 := Lib.hid (show w3.heap.size + 1 = (World.alloc w3 (.cells #[.int .i64 ((tasteF s me pe now b).1).xMe, .int .i64 ((tasteF s me pe now b).1).xPeer, .int .i64 ((tasteF s me pe now b).1).xTag, .int .i64 ((tasteF s me pe now b).1).xPeerTag, .int .i64 ((tasteF s me pe now b).1).xTsn, .int .i64 ((tasteF s me pe now b).1).xPeerTsn, .int .i64 ((tasteF s me pe now b).1).xStreams, .int .i64 ((tasteF s me pe now b).1).xMade, .int .i64 ((tasteF s me pe now b).1).xOldTag, .int .i64 ((tasteF s me pe now b).1).xOldPeerTag, .int .i64 ((tasteF s me pe now b).1).xMac] 49)).heap.size by simp)
  clear U4
  go_wp2_with fail
  refine (toByteS_n _ b _ (R4.out.below HB.out) (by rw [L4.out]; exact N4.out)).mono ?_
  rintro e wt2 ⟨Xv4, Xf4, rfl, Xo4, Xn4, bwt2⟩
  have Swt2 := Lib.hid bwt2.size
  replace WB0 := Lib.hid (WB0.out.keep bwt2)
  replace HB := Lib.hid (HB.out.trans (bwt2.mono HB.out.size))
  have X4 := Lib.hid Xo4.rd
  clear Xo4 Xn4 bwt2
  go_wp2_with fail
  refine (implAscTaste_n s me pe now _ b _ X4.out (by rw [L4.out]; exact N4.out)).mono ?_
  rintro e w5 ⟨rfl, bw5⟩
  replace WB0 := Lib.hid (WB0.out.keep bw5)
  replace X4 := Lib.hid (X4.out.below bw5)
  replace HB := Lib.hid (HB.out.trans (bw5.mono HB.out.size))
  clear bw5
  have GB0 := Lib.hid (Blk.new (w := w5) (b := w5.heap.size) #[.int .i64 ((tasteF s me pe now b).1).xMe, .int .i64 ((tasteF s me pe now b).1).xPeer, .int .i64 ((tasteF s me pe now b).1).xTag, .int .i64 ((tasteF s me pe now b).1).xPeerTag, .int .i64 ((tasteF s me pe now b).1).xTsn, .int .i64 ((tasteF s me pe now b).1).xPeerTsn, .int .i64 ((tasteF s me pe now b).1).xStreams, .int .i64 ((tasteF s me pe now b).1).xMade, .int .i64 ((tasteF s me pe now b).1).xOldTag, .int .i64 ((tasteF s me pe now b).1).xOldPeerTag, .int .i64 ((tasteF s me pe now b).1).xMac] 49 rfl)
  have bx := (Below.refl w5.heap.size w5).alloc (Nat.le_refl _) (.cells #[.int .i64 ((tasteF s me pe now b).1).xMe, .int .i64 ((tasteF s me pe now b).1).xPeer, .int .i64 ((tasteF s me pe now b).1).xTag, .int .i64 ((tasteF s me pe now b).1).xPeerTag, .int .i64 ((tasteF s me pe now b).1).xTsn, .int .i64 ((tasteF s me pe now b).1).xPeerTsn, .int .i64 ((tasteF s me pe now b).1).xStreams, .int .i64 ((tasteF s me pe now b).1).xMade, .int .i64 ((tasteF s me pe now b).1).xOldTag, .int .i64 ((tasteF s me pe now b).1).xOldPeerTag, .int .i64 ((tasteF s me pe now b).1).xMac] 49)
  replace WB0 := Lib.hid (WB0.out.keep bx)
  replace X4 := Lib.hid (X4.out.below bx)
  replace HB := Lib.hid (HB.out.trans (bx.mono HB.out.size))
  clear bx
  have SG0 := Lib.hid (show w5.heap.size + 1 = (World.alloc w5 (.cells #[.int .i64 ((tasteF s me pe now b).1).xMe, .int .i64 ((tasteF s me pe now b).1).xPeer, .int .i64 ((tasteF s me pe now b).1).xTag, .int .i64 ((tasteF s me pe now b).1).xPeerTag, .int .i64 ((tasteF s me pe now b).1).xTsn, .int .i64 ((tasteF s me pe now b).1).xPeerTsn, .int .i64 ((tasteF s me pe now b).1).xStreams, .int .i64 ((tasteF s me pe now b).1).xMade, .int .i64 ((tasteF s me pe now b).1).xOldTag, .int .i64 ((tasteF s me pe now b).1).xOldPeerTag, .int .i64 ((tasteF s me pe now b).1).xMac] 49)).heap.size by simp)
  have ea0 := GB0.out.at (i := 0) rfl
  have ea1 := GB0.out.at (i := 1) rfl
  have ea2 := GB0.out.at (i := 2) rfl
  have ea3 := GB0.out.at (i := 3) rfl
  have ea4 := GB0.out.at (i := 4) rfl
  have ea5 := GB0.out.at (i := 5) rfl
  have ea6 := GB0.out.at (i := 6) rfl
  have ea7 := GB0.out.at (i := 7) rfl
  have ea8 := GB0.out.at (i := 8) rfl
  have ea9 := GB0.out.at (i := 9) rfl
  have ea10 := GB0.out.at (i := 10) rfl
  have eb0 := WB0.out.at (i := 0) rfl
  have eb1 := WB0.out.at (i := 1) rfl
  have eb2 := WB0.out.at (i := 2) rfl
  have eb3 := WB0.out.at (i := 3) rfl
  have eb4 := WB0.out.at (i := 4) rfl
  have eb5 := WB0.out.at (i := 5) rfl
  have eb6 := WB0.out.at (i := 6) rfl
  have eb7 := WB0.out.at (i := 7) rfl
  have eb8 := WB0.out.at (i := 8) rfl
  have eb9 := WB0.out.at (i := 9) rfl
  have eb10 := WB0.out.at (i := 10) rfl
  go_wp2_with fail
  refine (eqAscCookie_s _ _ ((tasteF s me pe now b).1) _ rfl rfl).mono ?_
  rintro e we1 ⟨rfl, bwe1⟩
  have Swe1 := Lib.hid bwe1.size
  replace WB0 := Lib.hid (WB0.out.keep bwe1)
  replace X4 := Lib.hid (X4.out.below bwe1)
  replace GB0 := Lib.hid (GB0.out.keep bwe1)
  replace HB := Lib.hid (HB.out.trans (bwe1.mono HB.out.size))
  clear bwe1
  clear ea0 ea1 ea2 ea3 ea4 ea5 ea6 ea7 ea8 ea9 ea10
  clear eb0 eb1 eb2 eb3 eb4 eb5 eb6 eb7 eb8 eb9 eb10
  go_wp2_with fail
  refine (toByteS_n _ b _ (R4.out.below HB.out) (by rw [L4.out]; exact N4.out)).mono ?_
  rintro e wt3 ⟨Yv4, Yf4, rfl, Yo4, Yn4, bwt3⟩
  have Swt3 := Lib.hid bwt3.size
  replace WB0 := Lib.hid (WB0.out.keep bwt3)
  replace X4 := Lib.hid (X4.out.below bwt3)
  replace GB0 := Lib.hid (GB0.out.keep bwt3)
  replace HB := Lib.hid (HB.out.trans (bwt3.mono HB.out.size))
  have Y4 := Lib.hid Yo4.rd
  clear Yo4 Yn4 bwt3
  go_wp2_with fail
  refine (eqByteS_s _ _ b _ X4.out Y4.out (by rw [L4.out]; exact N4.out)).mono ?_
  rintro e we2 ⟨rfl, bwe2⟩
  have Swe2 := Lib.hid bwe2.size
  replace WB0 := Lib.hid (WB0.out.keep bwe2)
  replace X4 := Lib.hid (X4.out.below bwe2)
  replace GB0 := Lib.hid (GB0.out.keep bwe2)
  replace Y4 := Lib.hid (Y4.out.below bwe2)
  replace HB := Lib.hid (HB.out.trans (bwe2.mono HB.out.size))
  clear bwe2
  clear Y4
  go_wp2
  go_ret
  exact ⟨rfl, HB.out⟩
set_option maxRecDepth 100000 in
theorem ascTaste_lifted (os : Os) (started : os.Started) (H : Type) (enc : TypeId × Value → H) :
    ReturnsInHanded {} Try.checked os 8 .any (Rows.fnExactAscTasteSpec.pre6 enc Try.prog Try.f8 Rows.fnExactAscTasteRow.domain false) (Rows.fnExactAscTasteSpec.post enc Try.prog Try.f8 false true false false) := by
  refine returnsInHanded_of_change (C := Try.checked) ownKnob_none started (by kernel_rfl) Try.func8
    (ChangeSpec.witness6 (enc := enc) (C := Try.checked) false ⟨#[], #[.int .i64 0, .int .i64 0, .int .i64 0, .int .i64 0, .slice none 0 0], []⟩ 8 (by kernel_rfl) (by kernel_rfl) (by kernel_rfl) (by kernel_rfl)) ?_
  intro W base args ds gs before hval hW _ _
  have hW' := hW
  obtain ⟨p, q, hA, _⟩ := hW
  have hA' : DataW.TrodAll enc Try.prog W 0 (fun _ => true) true [3, 3, 3, 3, 34] args.toList ds p := hA
  obtain ⟨v0, vs0, d0, ds0, p0, q0, hargs, rfl, rfl, h0, r0⟩ := trodAll_cons hA'
  obtain ⟨v1, vs1, d1, ds1, p1, q1, rfl, rfl, rfl, h1, r1⟩ := trodAll_cons r0
  obtain ⟨v2, vs2, d2, ds2, p2, q2, rfl, rfl, rfl, h2, r2⟩ := trodAll_cons r1
  obtain ⟨v3, vs3, d3, ds3, p3, q3, rfl, rfl, rfl, h3, r3⟩ := trodAll_cons r2
  obtain ⟨v4, vs4, d4, ds4, p4, q4, rfl, rfl, rfl, h4, r4⟩ := trodAll_cons r3
  obtain ⟨rfl, rfl, rfl⟩ := trodAll_nil r4
  obtain rfl : args = #[v0, v1, v2, v3, v4] := by cases args; simp_all
  obtain ⟨a0, rfl, rfl, rfl, w0⟩ := open_int Try.underlying3 (hval 0 3 v0 rfl rfl) h0
  obtain ⟨a1, rfl, rfl, rfl, w1⟩ := open_int Try.underlying3 (hval 1 3 v1 rfl rfl) h1
  obtain ⟨a2, rfl, rfl, rfl, w2⟩ := open_int Try.underlying3 (hval 2 3 v2 rfl rfl) h2
  obtain ⟨a3, rfl, rfl, rfl, w3⟩ := open_int Try.underlying3 (hval 3 3 v3 rfl rfl) h3
  obtain ⟨x4, hx4⟩ := open_bytes (hval 4 34 v4 rfl rfl) h4
  refine (lawAscTaste a0 a1 a2 a3 v4 x4 W hx4).mono fun e W' ⟨he, hb⟩ => ?_
  subst he
  exact ⟨_, rfl, law_post (tb := 4) laidOut (by decide +kernel) rfl rfl Try.underlying4 (by rintro _ rfl; rfl) hW' hb⟩

theorem ascTaste_proved : Rows.FnExactAscTasteSaid :=
  OpenClaim.holds_of_wide 8 Try.f8 rfl rfl rfl rfl rfl rfl rfl ⟨rfl, rfl, rfl, rfl, rfl⟩ rfl rfl rfl rfl rfl (by kernel_rfl) Try.func8 ascTaste_closed
    (of_decide_eq_true (by kernel_rfl)) (by unfold Func.isWrapper; first | (rw [if_pos (by decide +kernel)]; kernel_rfl) | (rw [if_neg (by decide +kernel)]; exact ⟨rfl, rfl⟩))
    (fun os started H enc _ => ascTaste_lifted os started H enc)
#print axioms ascTaste_proved
end Go.Proofs.Ytbceikhmoblacaa
