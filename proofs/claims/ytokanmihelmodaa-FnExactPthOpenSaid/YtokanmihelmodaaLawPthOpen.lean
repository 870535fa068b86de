/-
  PthOpen of the program answers at every argument as the model's PthOpen (Rows.FnExactPthOpenSaid). No condition.
-/
import Derived.Test.YtokanmihelmodaaPthC
import Derived.Test.YtokanmihelmodaaRow
import Derived.ChangeSame
namespace Go.Proofs.Ytokanmihelmodaa
open Go.ChangeShapes Go.WideShapes Go.ChangeAt Go.RowKit
set_option linter.unusedVariables false

set_option maxHeartbeats 400000 in
theorem lawPthOpen_of (a : Int) (x0 : Int) (x1 : Bool) (x2 x3 x4 x5 : Int) (HS : ∀ w, Calls Try.prog 18 #[.int .i64 a] w fun e w' => e = .returned (.agg #[.int .i64 x0, .bool x1, .int .i64 x2, .int .i64 x3, .int .i64 x4, .int .i64 x5]) ∧ Below w.heap.size w w') (HI : ∀ w, Calls Try.prog 19 #[.int .i64 a] w fun e w' => e = .returned (.agg #[.int .i64 x0, .bool x1, .int .i64 x2, .int .i64 x3, .int .i64 x4, .int .i64 x5]) ∧ Below w.heap.size w w') (w : World) :
    Calls Try.prog 4 #[.int .i64 a] w fun e w' => e = .returned (.bool true) ∧ Below w.heap.size w w' := by
  have HS := Lib.hid HS
  have HI := Lib.hid HI
  go_enter Try.func4, Try.ntmps4
  go_wp2_with fail
  refine (HS.out _).mono ?_
  rintro e w1 ⟨rfl, b1⟩
  have K := Lib.hid (Blk.new (w := w1) (b := w1.heap.size) #[.int .i64 x0, .bool x1, .int .i64 x2, .int .i64 x3, .int .i64 x4, .int .i64 x5] 25 rfl)
  have HB := Lib.hid (b1.alloc (b1.size) (.cells #[.int .i64 x0, .bool x1, .int .i64 x2, .int .i64 x3, .int .i64 x4, .int .i64 x5] 25))
  clear b1
  go_wp2_with fail
  refine (HI.out _).mono ?_
  rintro e w2 ⟨rfl, b2⟩
  have K := Lib.hid (K.out.keep b2)
  have HB := Lib.hid (HB.out.trans (b2.mono HB.out.size))
  clear b2
  have K := Lib.hid (K.out.alloc (.cells #[.int .i64 x0, .bool x1, .int .i64 x2, .int .i64 x3, .int .i64 x4, .int .i64 x5] 25))
  have k := K.out
  have pc0 := k.at (i := 0) rfl
  have pc1 := k.at (i := 1) rfl
  have pc2 := k.at (i := 2) rfl
  have pc3 := k.at (i := 3) rfl
  have pc4 := k.at (i := 4) rfl
  have pc5 := k.at (i := 5) rfl
  clear k
  go_wp2_with fail
  refine (eqPthWay_same _ _ _ _ _ _ _).mono ?_
  rintro e w3 ⟨rfl, b3⟩
  have HB := Lib.hid ((HB.out.alloc (HB.out.size) _).trans (b3.mono (by have := HB.out.size; simp; omega)))
  clear b3
  clear pc0 pc1 pc2 pc3 pc4 pc5
  go_wp2
  go_ret
  exact ⟨rfl, HB.out⟩
theorem lawPthOpen (a : Int) (w : World) : Calls Try.prog 4 #[.int .i64 a] w fun e w' => e = .returned (.bool true) ∧ Below w.heap.size w w' := by
  rcases h : inB a 0 65535 with _ | _
  · exact lawPthOpen_of a 0 false 0 0 0 0 (fun w => specOpen_no a w h) (fun w => implOpen_no a w h) w
  · exact lawPthOpen_of a a true 0 0 0 3 (fun w => specOpen_yes a w h) (fun w => implOpen_yes a w h) w
set_option maxRecDepth 100000 in
theorem pthOpen_lifted (os : Os) (started : os.Started) (H : Type) (enc : TypeId × Value → H) :
    ReturnsInHanded {} Try.checked os 4 .any (Rows.fnExactPthOpenSpec.pre6 enc Try.prog Try.f4 Rows.fnExactPthOpenRow.domain false) (Rows.fnExactPthOpenSpec.post enc Try.prog Try.f4 false true false false) := by
  refine returnsInHanded_of_change (C := Try.checked) ownKnob_none started (by kernel_rfl) Try.func4
    (ChangeSpec.witness6 (enc := enc) (C := Try.checked) false ⟨#[], #[.int .i64 0], []⟩ 8 (by kernel_rfl) (by kernel_rfl) (by kernel_rfl) (by kernel_rfl)) ?_
  intro W base args ds gs before hval hW _ _
  have hW' := hW
  obtain ⟨p, q, hA, _⟩ := hW
  have hA' : DataW.TrodAll enc Try.prog W 0 (fun _ => true) true [3] args.toList ds p := hA
  obtain ⟨v0, vs0, d0, ds0, p0, q0, hargs, rfl, rfl, h0, r0⟩ := trodAll_cons hA'
  obtain ⟨rfl, rfl, rfl⟩ := trodAll_nil r0
  obtain rfl : args = #[v0] := by cases args; simp_all
  obtain ⟨a0, rfl, rfl, rfl, w0⟩ := open_int Try.underlying3 (hval 0 3 v0 rfl rfl) h0
  refine (lawPthOpen a0 W).mono fun e W' ⟨he, hb⟩ => ?_
  subst he
  exact ⟨_, rfl, law_post (tb := 4) laidOut (by decide +kernel) rfl rfl Try.underlying4 (by rintro _ rfl; rfl) hW' hb⟩

theorem pthOpen_proved : Rows.FnExactPthOpenSaid :=
  OpenClaim.holds_of_wide 4 Try.f4 rfl rfl rfl rfl rfl rfl rfl ⟨rfl, rfl, rfl, rfl, rfl⟩ rfl rfl rfl rfl rfl (by kernel_rfl) Try.func4 (by kernel_rfl)
    (of_decide_eq_true (by kernel_rfl)) (by unfold Func.isWrapper; first | (rw [if_pos (by decide +kernel)]; kernel_rfl) | (rw [if_neg (by decide +kernel)]; exact ⟨rfl, rfl⟩))
    (fun os started H enc _ => pthOpen_lifted os started H enc)
#print axioms pthOpen_proved
end Go.Proofs.Ytokanmihelmodaa
