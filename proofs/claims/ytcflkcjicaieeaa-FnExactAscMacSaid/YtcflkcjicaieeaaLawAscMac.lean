/-
  AscMac of the program answers at every argument as the model's AscMac (Rows.FnExactAscMacSaid). No condition.
-/
import Derived.Test.YtcflkcjicaieeaaAscMacF
import Derived.Test.YtcflkcjicaieeaaClAscMac
import Derived.Test.YtcflkcjicaieeaaRow
namespace Go.Proofs.Ytcflkcjicaieeaa
open Go.ChangeShapes Go.WideShapes Go.ChangeAt Go.RowKit
set_option linter.unusedVariables false

set_option maxHeartbeats 400000 in
theorem lawAscMac (s : Int) (cs : List Value) (x : DAscCookie) (w : World) (h : FAscCookie w cs x) : Calls Try.prog 12 #[.int .i64 s, .agg cs.toArray] w fun e w' => e = .returned (.bool true) ∧ Below w.heap.size w w' := by
  subst h
  have K := Lib.hid (Blk.new (w := w) (b := w.heap.size) #[.int .i64 x.xMe, .int .i64 x.xPeer, .int .i64 x.xTag, .int .i64 x.xPeerTag, .int .i64 x.xTsn, .int .i64 x.xPeerTsn, .int .i64 x.xStreams, .int .i64 x.xMade, .int .i64 x.xOldTag, .int .i64 x.xOldPeerTag, .int .i64 x.xMac] 111 rfl)
  have HB := Lib.hid ((Below.refl w.heap.size w).alloc (Nat.le_refl _) (.cells #[.int .i64 x.xMe, .int .i64 x.xPeer, .int .i64 x.xTag, .int .i64 x.xPeerTag, .int .i64 x.xTsn, .int .i64 x.xPeerTsn, .int .i64 x.xStreams, .int .i64 x.xMade, .int .i64 x.xOldTag, .int .i64 x.xOldPeerTag, .int .i64 x.xMac] 111))
  go_enter Try.func12, Try.ntmps12
  go_wp2_with fail
  refine (toAscCookie_n _ x _ rfl).mono ?_
  rintro e w1 ⟨cs1, f1, rfl, o1, n1, b1⟩
  obtain ⟨rfl, rfl⟩ := o1
  have K := Lib.hid (K.out.keep b1)
  have HB := Lib.hid (HB.out.trans (b1.mono HB.out.size))
  clear b1 n1
  go_wp2_with fail
  refine (specAscMac_r s x _).mono ?_
  rintro e w2 ⟨rfl, b2⟩
  have K := Lib.hid (K.out.keep b2)
  have HB := Lib.hid (HB.out.trans (b2.mono HB.out.size))
  clear b2
  have k0 := K.out.at (i := 0) rfl
  have k1 := K.out.at (i := 1) rfl
  have k2 := K.out.at (i := 2) rfl
  have k3 := K.out.at (i := 3) rfl
  have k4 := K.out.at (i := 4) rfl
  have k5 := K.out.at (i := 5) rfl
  have k6 := K.out.at (i := 6) rfl
  have k7 := K.out.at (i := 7) rfl
  have k8 := K.out.at (i := 8) rfl
  have k9 := K.out.at (i := 9) rfl
  have k10 := K.out.at (i := 10) rfl
  go_wp2_with fail
  refine (toAscCookie_n _ x _ rfl).mono ?_
  rintro e w3 ⟨cs3, f3, rfl, o3, n3, b3⟩
  obtain ⟨rfl, rfl⟩ := o3
  have HB := Lib.hid (HB.out.trans (b3.mono HB.out.size))
  clear b3 n3 K k0 k1 k2 k3 k4 k5 k6 k7 k8 k9 k10
  go_wp2_with fail
  refine (implAscMac_r s x _).mono ?_
  rintro e w4 ⟨rfl, b4⟩
  have HB := Lib.hid (HB.out.trans (b4.mono HB.out.size))
  clear b4
  generalize macF s x = r
  go_wp2
  go_ret
  exact ⟨rfl, HB.out⟩
set_option maxRecDepth 100000 in
theorem ascMac_lifted (os : Os) (started : os.Started) (H : Type) (enc : TypeId × Value → H) :
    ReturnsInHanded {} Try.checked os 12 .any (Rows.fnExactAscMacSpec.pre6 enc Try.prog Try.f12 Rows.fnExactAscMacRow.domain false) (Rows.fnExactAscMacSpec.post enc Try.prog Try.f12 false true false false) := by
  refine returnsInHanded_of_change (C := Try.checked) ownKnob_none started (by kernel_rfl) Try.func12
    (ChangeSpec.witness6 (enc := enc) (C := Try.checked) false ⟨#[], #[.int .i64 0, .agg #[.int .i64 0, .int .i64 0, .int .i64 0, .int .i64 0, .int .i64 0, .int .i64 0, .int .i64 0, .int .i64 0, .int .i64 0, .int .i64 0, .int .i64 0]], []⟩ 8 (by kernel_rfl) (by kernel_rfl) (by kernel_rfl) (by kernel_rfl)) ?_
  intro W base args ds gs before hval hW _ _
  have hW' := hW
  obtain ⟨p, q, hA, _⟩ := hW
  have hA' : DataW.TrodAll enc Try.prog W 0 (fun _ => true) true [3, 111] args.toList ds p := hA
  obtain ⟨v0, vs0, d0, ds0, p0, q0, hargs, rfl, rfl, h0, r0⟩ := trodAll_cons hA'
  obtain ⟨v1, vs1, d1, ds1, p1, q1, rfl, rfl, rfl, h1, r1⟩ := trodAll_cons r0
  obtain ⟨rfl, rfl, rfl⟩ := trodAll_nil r1
  obtain rfl : args = #[v0, v1] := by cases args; simp_all
  obtain ⟨a0, rfl, rfl, rfl, w0⟩ := open_int Try.underlying3 (hval 0 3 v0 rfl rfl) h0
  obtain ⟨cs, rfl, hcs⟩ := okWide_struct Try.underlying111 (hval 1 111 v1 rfl rfl)
  rw [cells_AscCookie] at hcs
  obtain ⟨fuel, hf⟩ := h1
  simp only [Value.cells] at hf
  obtain ⟨x, hx⟩ := read_AscCookie _ _ _ (by simpa using hcs) hf
  refine (lawAscMac a0 cs.toList x W hx).mono fun e W' ⟨he, hb⟩ => ?_
  subst he
  exact ⟨_, rfl, law_post (tb := 4) laidOut (by decide +kernel) rfl rfl Try.underlying4 (by rintro _ rfl; rfl) hW' hb⟩

theorem ascMac_proved : Rows.FnExactAscMacSaid :=
  OpenClaim.holds_of_wide 12 Try.f12 rfl rfl rfl rfl rfl rfl rfl ⟨rfl, rfl, rfl, rfl, rfl⟩ rfl rfl rfl rfl rfl (by kernel_rfl) Try.func12 ascMac_closed
    (of_decide_eq_true (by kernel_rfl)) (by unfold Func.isWrapper; first | (rw [if_pos (by decide +kernel)]; kernel_rfl) | (rw [if_neg (by decide +kernel)]; exact ⟨rfl, rfl⟩))
    (fun os started H enc _ => ascMac_lifted os started H enc)
#print axioms ascMac_proved
end Go.Proofs.Ytcflkcjicaieeaa
