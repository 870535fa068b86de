/-
  OctGet of the program answers at every argument as the model's OctGet, and turns no argument (Rows.FnExactOctGetSaid). No condition.
-/
import Derived.Test.YtlfhikojophlpaaOctGet
import Derived.Test.YtlfhikojophlpaaRow
namespace Go.Proofs.Ytlfhikojophlpaa
open Go.ChangeShapes Go.WideShapes Go.ChangeAt Go.RowKit Go.Maps
set_option linter.unusedVariables false

set_option maxHeartbeats 1000000 in
theorem lawGet (v : Value) (xs : List UInt8) (a s : Int) (w : World) (hv : RdB w v xs) (hn : xs.length ≤ 9223372036854775807) (ha : a ≤ 9223372036854775807) :
    Calls Try.prog 8 #[v, .int .i64 a, .int .i64 s] w fun e w' => e = .returned (.bool true) ∧ Below w.heap.size w w' := by
  by_cases hbig : 1048576 < xs.length
  · obtain ⟨A, c, rfl⟩ := hv.slice
    generalize xs.length = n at *
    clear hv
    go_enter Try.func8, Try.ntmps8
    go_wp2
    go_ret
    exact ⟨rfl, Below.refl _ _⟩
  · obtain ⟨A, c, rfl⟩ := id hv.slice
    have HV := Lib.hid hv
    clear hv
    generalize hl : xs.length = n at *
    have Hl := Lib.hid hl
    clear hl
    go_enter Try.func8, Try.ntmps8
    go_wp2_with fail
    refine (toByteS_any _ xs _ HV.out (by rw [Hl.out]; omega)).mono ?_
    rintro e w1 ⟨v1, rfl, o1, b1⟩
    have HV := Lib.hid (HV.out.below b1)
    have B1 := Lib.hid b1
    have O1 := Lib.hid o1
    clear b1 o1
    go_wp2_with fail
    refine (specGet_any _ xs _ _ _ O1.out.rd (by rw [Hl.out]; omega) ha).mono ?_
    rintro e w' ⟨rfl, rfl⟩
    go_wp2_with fail
    refine (toByteS_any _ xs _ HV.out (by rw [Hl.out]; omega)).mono ?_
    rintro e w2 ⟨v2, rfl, o2, b2⟩
    have HV := Lib.hid (HV.out.below b2)
    have B2 := Lib.hid (B1.out.trans (b2.mono B1.out.size))
    have O2 := Lib.hid o2
    clear b2 o2 B1 O1
    go_wp2_with fail
    refine (implGet_any _ xs _ _ _ O2.out.rd (by rw [Hl.out]; omega) ha).mono ?_
    rintro e w3 ⟨rfl, b3⟩
    have HV := Lib.hid (HV.out.below b3)
    have B3 := Lib.hid (B2.out.trans (b3.mono B2.out.size))
    have O2 := Lib.hid ((O2.out.below b3 (Nat.le_refl _)).mono b3.size)
    clear b3 B2
    generalize getN xs a s = N
    generalize getB xs.length a s = bb
    go_wp2_with fail
    refine (toByteS_any _ xs _ HV.out (by rw [Hl.out]; omega)).mono ?_
    rintro e w4 ⟨v4, rfl, o4, b4⟩
    have B4 := Lib.hid (B3.out.trans (b4.mono B3.out.size))
    have O2 := Lib.hid (O2.out.below b4 (Nat.le_refl _))
    have O4 := Lib.hid o4
    clear b4 o4 B3
    go_wp2_with fail
    refine (eqByteS_any _ _ xs xs _ O2.out.rd O4.out.rd (by rw [Hl.out]; omega) (by rw [Hl.out]; omega)).mono ?_
    rintro e w' ⟨rfl, d1, rfl⟩
    rw [beq_self_eq_true]
    go_wp2
    go_ret
    exact ⟨rfl, below_drewN B4.out _⟩

set_option maxRecDepth 100000 in
theorem get_lifted (os : Os) (started : os.Started) (H : Type) (enc : TypeId × Value → H) :
    ReturnsInHanded {} Try.checked os 8 .any (Rows.fnExactOctGetSpec.pre6 enc Try.prog Try.f8 Rows.fnExactOctGetRow.domain false) (Rows.fnExactOctGetSpec.post enc Try.prog Try.f8 false true false false) := by
  refine returnsInHanded_of_change (C := Try.checked) ownKnob_none started (by kernel_rfl) Try.func8
    (ChangeSpec.witness6 (enc := enc) (C := Try.checked) false ⟨#[], #[.slice none 0 0, .int .i64 0, .int .i64 0], []⟩ 8 (by kernel_rfl) (by kernel_rfl) (by kernel_rfl) (by kernel_rfl)) ?_
  intro W base args ds gs before hval hW _ _
  have hW' := hW
  obtain ⟨p, q, hA, _⟩ := hW
  have hA' : DataW.TrodAll enc Try.prog W 0 (fun _ => true) true [22, 3, 3] args.toList ds p := hA
  obtain ⟨v0, vs0, d0, ds0, p0, q0, hargs, rfl, rfl, h0, r0⟩ := trodAll_cons hA'
  obtain ⟨v1, vs1, d1, ds1, p1, q1, rfl, rfl, rfl, h1, r1⟩ := trodAll_cons r0
  obtain ⟨v2, vs2, d2, ds2, p2, q2, rfl, rfl, rfl, h2, r2⟩ := trodAll_cons r1
  obtain ⟨rfl, rfl, rfl⟩ := trodAll_nil r2
  obtain rfl : args = #[v0, v1, v2] := by cases args; simp_all
  obtain ⟨x0, hx0⟩ := open_bytes (hval 0 22 v0 rfl rfl) h0
  obtain ⟨a1, rfl, rfl, rfl, w1⟩ := open_int Try.underlying3 (hval 1 3 v1 rfl rfl) h1
  obtain ⟨a2, rfl, rfl, rfl, w2⟩ := open_int Try.underlying3 (hval 2 3 v2 rfl rfl) h2
  refine (lawGet v0 x0 a1 a2 W hx0 (by obtain ⟨A, c, rfl⟩ := hx0.slice; have := hx0.cap; omega) (by have := bounds_i64 w1; omega)).mono fun e W' ⟨he, hb⟩ => ?_
  subst he
  exact ⟨_, rfl, law_post (tb := 4) laidOut (by decide +kernel) rfl rfl Try.underlying4 (by rintro _ rfl; rfl) hW' hb⟩

theorem get_proved : Rows.FnExactOctGetSaid :=
  OpenClaim.holds_of_wide 8 Try.f8 rfl rfl rfl rfl rfl rfl rfl ⟨rfl, rfl, rfl, rfl, rfl⟩ rfl rfl rfl rfl rfl (by kernel_rfl) Try.func8 (by kernel_rfl)
    (of_decide_eq_true (by kernel_rfl)) (by unfold Func.isWrapper; first | (rw [if_pos (by decide +kernel)]; kernel_rfl) | (rw [if_neg (by decide +kernel)]; exact ⟨rfl, rfl⟩))
    (fun os started H enc _ => get_lifted os started H enc)
#print axioms get_proved
end Go.Proofs.Ytlfhikojophlpaa
