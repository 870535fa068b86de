/-
  OctPut of the program answers at every argument as the model's OctPut, and its answer is new memory (Rows.FnExactOctPutSaid). No condition.
-/
import Derived.Test.YtlfhikojophlpaaOctPut
import Derived.Test.YtlfhikojophlpaaRow
namespace Go.Proofs.Ytlfhikojophlpaa
open Go.ChangeShapes Go.WideShapes Go.ChangeAt Go.RowKit Go.Maps

set_option maxHeartbeats 1000000 in
theorem lawPut (n s : Int) (hs : (Lit.int .i64 s).wf = true) (w : World) : Calls Try.prog 7 #[.int .i64 n, .int .i64 s] w fun e w' => e = .returned (.bool true) ∧ Below w.heap.size w w' := by
  have hl := putF_len n s
  go_enter Try.func7, Try.ntmps7
  go_wp2_with fail
  refine (specPut_any _ _ _).mono ?_
  rintro e w1 ⟨v1, rfl, o1, b1⟩
  have O1 := Lib.hid o1; have B1 := Lib.hid b1; clear o1 b1
  go_wp2_with fail
  refine (implPut_any _ _ _ hs).mono ?_
  rintro e w2 ⟨v2, rfl, o2, b2⟩
  have O1 := Lib.hid (O1.out.below b2 (Nat.le_refl _))
  have O2 := Lib.hid o2
  have B2 := Lib.hid (B1.out.trans (b2.mono B1.out.size)); have S2 := Lib.hid b2.size; have S1 := Lib.hid B1.out.size; clear o2 b2 B1
  go_wp2_with fail
  refine (eqByteS_any _ _ _ _ _ O2.out.rd O1.out.rd (by omega) (by omega)).mono ?_
  rintro e w' ⟨rfl, d1, rfl⟩
  rw [beq_self_eq_true]
  go_wp2_with fail
  refine (markByteS_any _ _ _ _ _ _ (O2.out.drewN _) (by omega) (by omega)).mono ?_
  rintro e w3 ⟨rfl, o3, f3⟩
  have O1 := Lib.hid ((O1.out.drewN _).fr f3 (.inl (Nat.le_refl _)))
  have O3 := Lib.hid o3
  have B3 := Lib.hid ((below_drewN B2.out _).trans (f3.below S1.out (Nat.le_trans S1.out S2.out)))
  have S3 := Lib.hid f3.size
  clear o3 f3 O2 B2
  go_wp2_with fail
  refine (heldByteS_any _ _ _ _ O3.out.rd (by omega) (by omega)).mono ?_
  rintro e w' ⟨rfl, rfl⟩
  go_wp2_with fail
  refine (implPut_any _ _ _ hs).mono ?_
  rintro e w4 ⟨v4, rfl, o4, b4⟩
  have O1 := Lib.hid (O1.out.below b4 (Nat.le_trans S2.out S3.out))
  have O3 := Lib.hid (O3.out.below b4 S3.out)
  have O4 := Lib.hid o4
  have B4 := Lib.hid (B3.out.trans (b4.mono B3.out.size))
  clear o4 b4 B3
  go_wp2_with fail
  refine (eqByteS_any _ _ _ _ _ O4.out.rd O1.out.rd (by omega) (by omega)).mono ?_
  rintro e w' ⟨rfl, d2, rfl⟩
  rw [beq_self_eq_true]
  go_wp2_with fail
  refine (heldByteS_any _ _ _ _ (O3.out.drewN _).rd (by omega) (by omega)).mono ?_
  rintro e w' ⟨rfl, rfl⟩
  go_wp2
  go_ret
  exact ⟨rfl, below_drewN B4.out _⟩

set_option maxRecDepth 100000 in
theorem putLifted (os : Os) (started : os.Started) (H : Type) (enc : TypeId × Value → H) :
    ReturnsInHanded {} Try.checked os 7 .any (Rows.fnExactOctPutSpec.pre6 enc Try.prog Try.f7 Rows.fnExactOctPutRow.domain false) (Rows.fnExactOctPutSpec.post enc Try.prog Try.f7 false true false false) := by
  refine returnsInHanded_of_change (C := Try.checked) ownKnob_none started (by kernel_rfl) Try.func7
    (ChangeSpec.witness6 (enc := enc) (C := Try.checked) false ⟨#[], #[.int .i64 0, .int .i64 0], []⟩ 8 (by kernel_rfl) (by kernel_rfl) (by kernel_rfl) (by kernel_rfl)) ?_
  intro W base args ds gs before hval hW _ _
  have hW' := hW
  obtain ⟨p, q, hA, _⟩ := hW
  have hA' : DataW.TrodAll enc Try.prog W 0 (fun _ => true) true [3, 3] args.toList ds p := hA
  obtain ⟨v0, vs0, d0, ds0, p0, q0, hargs, rfl, rfl, h0, r0⟩ := trodAll_cons hA'
  obtain ⟨v1, vs1, d1, ds1, p1, q1, rfl, rfl, rfl, h1, r1⟩ := trodAll_cons r0
  obtain ⟨rfl, rfl, rfl⟩ := trodAll_nil r1
  obtain rfl : args = #[v0, v1] := by cases args; simp_all
  obtain ⟨a0, rfl, rfl, rfl, w0⟩ := open_int Try.underlying3 (hval 0 3 v0 rfl rfl) h0
  obtain ⟨a1, rfl, rfl, rfl, w1⟩ := open_int Try.underlying3 (hval 1 3 v1 rfl rfl) h1
  refine (lawPut a0 a1 w1 W).mono fun e W' ⟨he, hb⟩ => ?_
  subst he
  exact ⟨_, rfl, law_post (tb := 4) laidOut (by decide +kernel) rfl rfl Try.underlying4 (by rintro _ rfl; rfl) hW' hb⟩

theorem put_proved : Rows.FnExactOctPutSaid :=
  OpenClaim.holds_of_wide 7 Try.f7 rfl rfl rfl rfl rfl rfl rfl ⟨rfl, rfl, rfl, rfl, rfl⟩ rfl rfl rfl rfl rfl (by kernel_rfl) Try.func7 (by kernel_rfl)
    (of_decide_eq_true (by kernel_rfl)) (by unfold Func.isWrapper; first | (rw [if_pos (by decide +kernel)]; kernel_rfl) | (rw [if_neg (by decide +kernel)]; exact ⟨rfl, rfl⟩))
    (fun os started H enc _ => putLifted os started H enc)
#print axioms put_proved
end Go.Proofs.Ytlfhikojophlpaa
