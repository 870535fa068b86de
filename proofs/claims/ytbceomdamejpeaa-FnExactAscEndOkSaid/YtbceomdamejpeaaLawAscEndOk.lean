/-
  AscEndOk of the program answers at every argument as the model's AscEndOk, and writes nothing into its argument (Rows.FnExactAscEndOkSaid). No condition.
-/
import Derived.Test.YtbceomdamejpeaaAscOkI
import Derived.Test.YtbceomdamejpeaaClAscEndOk
import Derived.Test.YtbceomdamejpeaaTyAscEnd
import Derived.Test.YtbceomdamejpeaaRow
import Derived.ChangeSame
import Derived.Deep.RegionHeld3
namespace Go.Proofs.Ytbceomdamejpeaa
open Go.ChangeShapes Go.WideShapes Go.ChangeAt Go.RowKit
set_option linter.unusedVariables false
set_option linter.unusedSimpArgs false

theorem scascEndOk {x : World} {b c : Nat} {p0 p1 p2 p3 p4 p5 p6 p7 p8 p9 p10 p11 p12 p13 q0 q1 q2 q3 q4 q5 q6 q7 q8 q9 q10 q11 q12 q13 : Value} (h : Blk x b [p0, p1, p2, p3, p4, p5, p6, p7, p8, p9, p10, p11, p12, p13]) (k : Blk x c [q0, q1, q2, q3, q4, q5, q6, q7, q8, q9, q10, q11, q12, q13]) :
    x.cell? ⟨b, 0, none⟩ = some p0 ∧ x.cell? ⟨b, 1, none⟩ = some p1 ∧ x.cell? ⟨b, 2, none⟩ = some p2 ∧ x.cell? ⟨b, 3, none⟩ = some p3 ∧ x.cell? ⟨b, 4, none⟩ = some p4 ∧ x.cell? ⟨b, 5, none⟩ = some p5 ∧ x.cell? ⟨b, 6, none⟩ = some p6 ∧ x.cell? ⟨b, 7, none⟩ = some p7 ∧ x.cell? ⟨b, 8, none⟩ = some p8 ∧ x.cell? ⟨b, 9, none⟩ = some p9 ∧ x.cell? ⟨b, 10, none⟩ = some p10 ∧ x.cell? ⟨b, 11, none⟩ = some p11 ∧ x.cell? ⟨b, 12, none⟩ = some p12 ∧ x.cell? ⟨b, 13, none⟩ = some p13 ∧ x.cell? ⟨c, 0, none⟩ = some q0 ∧ x.cell? ⟨c, 1, none⟩ = some q1 ∧ x.cell? ⟨c, 2, none⟩ = some q2 ∧ x.cell? ⟨c, 3, none⟩ = some q3 ∧ x.cell? ⟨c, 4, none⟩ = some q4 ∧ x.cell? ⟨c, 5, none⟩ = some q5 ∧ x.cell? ⟨c, 6, none⟩ = some q6 ∧ x.cell? ⟨c, 7, none⟩ = some q7 ∧ x.cell? ⟨c, 8, none⟩ = some q8 ∧ x.cell? ⟨c, 9, none⟩ = some q9 ∧ x.cell? ⟨c, 10, none⟩ = some q10 ∧ x.cell? ⟨c, 11, none⟩ = some q11 ∧ x.cell? ⟨c, 12, none⟩ = some q12 ∧ x.cell? ⟨c, 13, none⟩ = some q13 :=
  ⟨h.at rfl, h.at rfl, h.at rfl, h.at rfl, h.at rfl, h.at rfl, h.at rfl, h.at rfl, h.at rfl, h.at rfl, h.at rfl, h.at rfl, h.at rfl, h.at rfl, k.at rfl, k.at rfl, k.at rfl, k.at rfl, k.at rfl, k.at rfl, k.at rfl, k.at rfl, k.at rfl, k.at rfl, k.at rfl, k.at rfl, k.at rfl, k.at rfl⟩
set_option maxRecDepth 100000 in
set_option maxHeartbeats 2000000 in
theorem lawAscEndOk (f : DAscEnd → Bool) (hs : ∀ cs x w, FAscEnd w cs x → Calls Try.prog 42 #[.agg cs.toArray] w fun e w' => e = .returned (.bool (f x)) ∧ Below w.heap.size w w')
    (hi : ∀ cs x w, FAscEnd w cs x → Calls Try.prog 44 #[.agg cs.toArray] w fun e w' => e = .returned (.bool (f x)) ∧ Below w.heap.size w w')
    (cs : List Value) (x : DAscEnd) (w : World) (h : FAscEnd w cs x) : Calls Try.prog 7 #[.agg cs.toArray] w fun e w' => e = .returned (.bool true) ∧ Below w.heap.size w w' := by
  have HF := Lib.hid h
  have HS := Lib.hid hs
  have HI := Lib.hid hi
  clear hs hi
  obtain ⟨v11, rfl, h11⟩ := h
  have K := Lib.hid (Blk.new (w := w) (b := w.heap.size) #[.int .i64 x.xMe, .int .i64 x.xPeer, .int .i64 x.xSecret, .int .i64 x.xWish, .int .i64 x.xLast, .int .i64 x.xState, .int .i64 x.xTag, .int .i64 x.xPeerTag, .int .i64 x.xTsn, .int .i64 x.xPeerTsn, .int .i64 x.xStreams, v11, .int .i64 x.xTries, .int .i64 x.xLeft] 63 rfl)
  have HB := Lib.hid ((Below.refl w.heap.size w).alloc (Nat.le_refl _) (.cells #[.int .i64 x.xMe, .int .i64 x.xPeer, .int .i64 x.xSecret, .int .i64 x.xWish, .int .i64 x.xLast, .int .i64 x.xState, .int .i64 x.xTag, .int .i64 x.xPeerTag, .int .i64 x.xTsn, .int .i64 x.xPeerTsn, .int .i64 x.xStreams, v11, .int .i64 x.xTries, .int .i64 x.xLeft] 63))
  clear h11
  go_enter Try.func7, Try.ntmps7
  go_wp2_with fail
  refine (szAscEnd_z _ x _ _ (HF.out.below HB.out) ⟨by omega, by omega⟩).mono ?_
  rintro e w1 ⟨rfl, b1⟩
  have K := Lib.hid (K.out.keep b1)
  have HB := Lib.hid (HB.out.trans (b1.mono HB.out.size))
  clear b1
  have hr := szR_cases 1048576 (zAscEnd x) (by omega)
  generalize szR 1048576 (zAscEnd x) = r at *
  rcases hr with ⟨rfl, _⟩ | ⟨hr, _, ht⟩
  · go_wp2
    go_ret
    exact ⟨rfl, HB.out⟩
  have Hn := Lib.hid (show zAscEnd x ≤ 1048576 by omega)
  clear ht
  have pc0 := K.out.at (i := 0) rfl
  have pc1 := K.out.at (i := 1) rfl
  have pc2 := K.out.at (i := 2) rfl
  have pc3 := K.out.at (i := 3) rfl
  have pc4 := K.out.at (i := 4) rfl
  have pc5 := K.out.at (i := 5) rfl
  have pc6 := K.out.at (i := 6) rfl
  have pc7 := K.out.at (i := 7) rfl
  have pc8 := K.out.at (i := 8) rfl
  have pc9 := K.out.at (i := 9) rfl
  have pc10 := K.out.at (i := 10) rfl
  have pc11 := K.out.at (i := 11) rfl
  have pc12 := K.out.at (i := 12) rfl
  have pc13 := K.out.at (i := 13) rfl
  go_wp2_with fail
  refine (toAscEnd_n _ x _ (HF.out.below HB.out) Hn.out).mono ?_
  rintro e w2 ⟨cs2, f2, rfl, o2, n2, b2⟩
  have K := Lib.hid (K.out.keep b2)
  have HB := Lib.hid (HB.out.trans (b2.mono HB.out.size))
  clear pc0 pc1 pc2 pc3 pc4 pc5 pc6 pc7 pc8 pc9 pc10 pc11 pc12 pc13
  have O2 := Lib.hid o2.rd
  clear o2 n2 b2
  go_wp2_with fail
  refine (HS.out _ x _ O2.out).mono ?_
  rintro e w3 ⟨rfl, b3⟩
  have K := Lib.hid (K.out.keep b3)
  have HB := Lib.hid (HB.out.trans (b3.mono HB.out.size))
  clear b3 O2
  have pc0 := K.out.at (i := 0) rfl
  have pc1 := K.out.at (i := 1) rfl
  have pc2 := K.out.at (i := 2) rfl
  have pc3 := K.out.at (i := 3) rfl
  have pc4 := K.out.at (i := 4) rfl
  have pc5 := K.out.at (i := 5) rfl
  have pc6 := K.out.at (i := 6) rfl
  have pc7 := K.out.at (i := 7) rfl
  have pc8 := K.out.at (i := 8) rfl
  have pc9 := K.out.at (i := 9) rfl
  have pc10 := K.out.at (i := 10) rfl
  have pc11 := K.out.at (i := 11) rfl
  have pc12 := K.out.at (i := 12) rfl
  have pc13 := K.out.at (i := 13) rfl
  go_wp2_with fail
  refine (toAscEnd_n _ x _ (HF.out.below HB.out) Hn.out).mono ?_
  rintro e w4 ⟨cs4, f4, rfl, o4, n4, b4⟩
  have O4 := Lib.hid o4.rd
  obtain ⟨zv11, zf11, rfl, zo11, rfl⟩ := o4
  obtain ⟨A11, c11, rfl⟩ := zo11.rd.slice
  clear zo11
  clear pc0 pc1 pc2 pc3 pc4 pc5 pc6 pc7 pc8 pc9 pc10 pc11 pc12 pc13
  have K := Lib.hid (K.out.keep b4)
  have HB := Lib.hid (HB.out.trans (b4.mono HB.out.size))
  clear b4 n4
  have O4 := Lib.hid (O4.out.below ((Below.refl _ _).alloc (Nat.le_refl _) (.cells #[.int .i64 x.xMe, .int .i64 x.xPeer, .int .i64 x.xSecret, .int .i64 x.xWish, .int .i64 x.xLast, .int .i64 x.xState, .int .i64 x.xTag, .int .i64 x.xPeerTag, .int .i64 x.xTsn, .int .i64 x.xPeerTsn, .int .i64 x.xStreams, .slice A11 x.xCookie.length c11, .int .i64 x.xTries, .int .i64 x.xLeft] 66)))
  have X := Lib.hid (Blk.new (w := w4) (b := w4.heap.size) #[.int .i64 x.xMe, .int .i64 x.xPeer, .int .i64 x.xSecret, .int .i64 x.xWish, .int .i64 x.xLast, .int .i64 x.xState, .int .i64 x.xTag, .int .i64 x.xPeerTag, .int .i64 x.xTsn, .int .i64 x.xPeerTsn, .int .i64 x.xStreams, .slice A11 x.xCookie.length c11, .int .i64 x.xTries, .int .i64 x.xLeft] 66 rfl)
  have K := Lib.hid (K.out.alloc (.cells #[.int .i64 x.xMe, .int .i64 x.xPeer, .int .i64 x.xSecret, .int .i64 x.xWish, .int .i64 x.xLast, .int .i64 x.xState, .int .i64 x.xTag, .int .i64 x.xPeerTag, .int .i64 x.xTsn, .int .i64 x.xPeerTsn, .int .i64 x.xStreams, .slice A11 x.xCookie.length c11, .int .i64 x.xTries, .int .i64 x.xLeft] 66))
  have HB := Lib.hid (HB.out.alloc HB.out.size (.cells #[.int .i64 x.xMe, .int .i64 x.xPeer, .int .i64 x.xSecret, .int .i64 x.xWish, .int .i64 x.xLast, .int .i64 x.xState, .int .i64 x.xTag, .int .i64 x.xPeerTag, .int .i64 x.xTsn, .int .i64 x.xPeerTsn, .int .i64 x.xStreams, .slice A11 x.xCookie.length c11, .int .i64 x.xTries, .int .i64 x.xLeft] 66))
  go_wp2_with fail
  refine (HI.out _ x _ O4.out).mono ?_
  rintro e w5 ⟨rfl, b5⟩
  have K := Lib.hid (K.out.keep b5)
  have HB := Lib.hid (HB.out.trans (b5.mono HB.out.size))
  have X := Lib.hid (X.out.keep b5)
  have O4 := Lib.hid (O4.out.below b5)
  clear b5
  have X5 := Lib.hid X.out.drew
  have K5 := Lib.hid K.out.drew
  clear X K
  generalize f x = ok
  go_wp2_with fail
  go_region_held3 (fun y => y.cell? ⟨w4.heap.size, 0, none⟩ = some (.int .i64 x.xMe) ∧ y.cell? ⟨w4.heap.size, 1, none⟩ = some (.int .i64 x.xPeer) ∧ y.cell? ⟨w4.heap.size, 2, none⟩ = some (.int .i64 x.xSecret) ∧ y.cell? ⟨w4.heap.size, 3, none⟩ = some (.int .i64 x.xWish) ∧ y.cell? ⟨w4.heap.size, 4, none⟩ = some (.int .i64 x.xLast) ∧ y.cell? ⟨w4.heap.size, 5, none⟩ = some (.int .i64 x.xState) ∧ y.cell? ⟨w4.heap.size, 6, none⟩ = some (.int .i64 x.xTag) ∧ y.cell? ⟨w4.heap.size, 7, none⟩ = some (.int .i64 x.xPeerTag) ∧ y.cell? ⟨w4.heap.size, 8, none⟩ = some (.int .i64 x.xTsn) ∧ y.cell? ⟨w4.heap.size, 9, none⟩ = some (.int .i64 x.xPeerTsn) ∧ y.cell? ⟨w4.heap.size, 10, none⟩ = some (.int .i64 x.xStreams) ∧ y.cell? ⟨w4.heap.size, 11, none⟩ = some (.slice A11 x.xCookie.length c11) ∧ y.cell? ⟨w4.heap.size, 12, none⟩ = some (.int .i64 x.xTries) ∧ y.cell? ⟨w4.heap.size, 13, none⟩ = some (.int .i64 x.xLeft) ∧ y.cell? ⟨w.heap.size, 0, none⟩ = some (.int .i64 x.xMe) ∧ y.cell? ⟨w.heap.size, 1, none⟩ = some (.int .i64 x.xPeer) ∧ y.cell? ⟨w.heap.size, 2, none⟩ = some (.int .i64 x.xSecret) ∧ y.cell? ⟨w.heap.size, 3, none⟩ = some (.int .i64 x.xWish) ∧ y.cell? ⟨w.heap.size, 4, none⟩ = some (.int .i64 x.xLast) ∧ y.cell? ⟨w.heap.size, 5, none⟩ = some (.int .i64 x.xState) ∧ y.cell? ⟨w.heap.size, 6, none⟩ = some (.int .i64 x.xTag) ∧ y.cell? ⟨w.heap.size, 7, none⟩ = some (.int .i64 x.xPeerTag) ∧ y.cell? ⟨w.heap.size, 8, none⟩ = some (.int .i64 x.xTsn) ∧ y.cell? ⟨w.heap.size, 9, none⟩ = some (.int .i64 x.xPeerTsn) ∧ y.cell? ⟨w.heap.size, 10, none⟩ = some (.int .i64 x.xStreams) ∧ y.cell? ⟨w.heap.size, 11, none⟩ = some (v11) ∧ y.cell? ⟨w.heap.size, 12, none⟩ = some (.int .i64 x.xTries) ∧ y.cell? ⟨w.heap.size, 13, none⟩ = some (.int .i64 x.xLeft)) (first | (with_reducible exact scascEndOk X5.out K5.out) | (with_reducible exact scascEndOk X6.out K6.out) | (with_reducible exact scascEndOk X7.out K7.out)) (first | (go_at_call 43; refine (toAscEnd_n _ x _ (HF.out.below HB.out.drew) Hn.out).mono ?_; rintro e w6 ⟨cs6, f6, rfl, o6, n6, b6⟩; have O6 := Lib.hid o6.rd; have O46 := Lib.hid ((O4.out.below (Below.refl _ _).drew).below b6); have X6 := Lib.hid (X5.out.keep b6); have K6 := Lib.hid (K5.out.keep b6); have HB6 := Lib.hid (HB.out.drew.trans (b6.mono HB.out.size)); clear o6 n6 b6) | (go_at_call 45; refine (eqAscEnd_s _ _ x _ O46.out O6.out Hn.out).mono ?_; rintro e w7 ⟨rfl, b7⟩; have X7 := Lib.hid (X6.out.keep b7); have K7 := Lib.hid (K6.out.keep b7); have HB7 := Lib.hid (HB6.out.trans (b7.mono HB6.out.size)); clear b7))
  go_wp2
  go_ret
  exact ⟨rfl, HB7.out⟩
set_option maxRecDepth 100000 in
theorem ascEndOk_lifted (os : Os) (started : os.Started) (H : Type) (enc : TypeId × Value → H) :
    ReturnsInHanded {} Try.checked os 7 .any (Rows.fnExactAscEndOkSpec.pre6 enc Try.prog Try.f7 Rows.fnExactAscEndOkRow.domain false) (Rows.fnExactAscEndOkSpec.post enc Try.prog Try.f7 false true false false) := by
  refine returnsInHanded_of_change (C := Try.checked) ownKnob_none started (by kernel_rfl) Try.func7
    (ChangeSpec.witness6 (enc := enc) (C := Try.checked) false ⟨#[], #[.agg #[.int .i64 0, .int .i64 0, .int .i64 0, .int .i64 0, .int .i64 0, .int .i64 0, .int .i64 0, .int .i64 0, .int .i64 0, .int .i64 0, .int .i64 0, .slice none 0 0, .int .i64 0, .int .i64 0]], []⟩ 8 (by kernel_rfl) (by kernel_rfl) (by kernel_rfl) (by kernel_rfl)) ?_
  intro W base args ds gs before hval hW _ _
  have hW' := hW
  obtain ⟨p, q, hA, _⟩ := hW
  have hA' : DataW.TrodAll enc Try.prog W 0 (fun _ => true) true [63] args.toList ds p := hA
  obtain ⟨u0, vs0, d0, ds0, p0, q0, hargs, rfl, rfl, h0, r0⟩ := trodAll_cons hA'
  obtain ⟨rfl, rfl, rfl⟩ := trodAll_nil r0
  obtain rfl : args = #[u0] := by cases args; simp_all
  obtain ⟨cs, rfl, hcs⟩ := okWide_struct Try.underlying63 (hval 0 63 u0 rfl rfl)
  rw [cells_AscEnd] at hcs
  obtain ⟨fuel, hf⟩ := h0
  simp only [Value.cells] at hf
  obtain ⟨x, hx⟩ := read_AscEnd _ _ _ (by simpa using hcs) hf
  refine (lawAscEndOk _ (fun cs x w h => specAscEndOk_r cs x w h) (fun cs x w h => implAscEndOk_r cs x w h) cs.toList x W hx).mono fun e W' ⟨he, hb⟩ => ?_
  subst he
  exact ⟨_, rfl, law_post (tb := 4) laidOut (by decide +kernel) rfl rfl Try.underlying4 (by rintro _ rfl; rfl) hW' hb⟩

theorem ascEndOk_proved : Rows.FnExactAscEndOkSaid :=
  OpenClaim.holds_of_wide 7 Try.f7 rfl rfl rfl rfl rfl rfl rfl ⟨rfl, rfl, rfl, rfl, rfl⟩ rfl rfl rfl rfl rfl (by kernel_rfl) Try.func7 ascEndOk_closed
    (of_decide_eq_true (by kernel_rfl)) (by unfold Func.isWrapper; first | (rw [if_pos (by decide +kernel)]; kernel_rfl) | (rw [if_neg (by decide +kernel)]; exact ⟨rfl, rfl⟩))
    (fun os started H enc _ => ascEndOk_lifted os started H enc)
#print axioms ascEndOk_proved
end Go.Proofs.Ytbceomdamejpeaa
