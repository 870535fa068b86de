/-
  DatOutOpen of the program answers at every argument as the model's DatOutOpen, and its answer is new memory (Rows.FnExactDatOutOpenSaid). No condition.
-/
import Derived.Test.YtokanmihelmodaaOutOpen
import Derived.Test.YtokanmihelmodaaRow
namespace Go.Proofs.Ytokanmihelmodaa
open Go.ChangeShapes Go.WideShapes Go.ChangeAt Go.RowKit
set_option linter.unusedVariables false

theorem Blk.fr {w w' : World} {lo hi b : Nat} {vs : List Value} (h : Blk w b vs) (hf : Fr lo hi w w') (hd : b < lo ∨ hi ≤ b) : Blk w' b vs :=
  ⟨Nat.lt_of_lt_of_le h.lt hf.size, fun i => (World.cell?_of_block (a := ⟨b, i, none⟩) (hf.block b h.lt hd)).trans (h.cell i), fun o => (World.frozen?_of_block (a := ⟨b, o, none⟩) (hf.block b h.lt hd)).trans (h.frozen o)⟩
set_option maxRecDepth 100000 in
set_option maxHeartbeats 2000000 in
theorem lawOutOpen_of (t0 s0 s t : Int) (xs : List Int) (hn : xs.length ≤ 8) (HS : OpenC 40 t0 s0 s t xs) (HI : OpenC 41 t0 s0 s t xs) (w : World) :
    Calls Try.prog 10 #[.int .i64 t0, .int .i64 s0] w fun e w' => e = .returned (.bool true) ∧ Below w.heap.size w w' := by
  have HS := Lib.hid HS
  have HI := Lib.hid HI
  go_enter Try.func10, Try.ntmps10
  go_wp2_with fail
  refine (HS.out _).mono ?_
  rintro e w1 ⟨A1, c1, B1, d1, v1, rfl, o1, b1⟩
  obtain ⟨a1, e1, rfl⟩ := o1.rd.slice
  have W0 := Lib.hid (Blk.new (w := w1) (b := w1.heap.size) #[.int .i64 s, .int .i64 t, .slice A1 0 c1, .slice B1 0 d1, .slice a1 xs.length e1] 60 rfl)
  have O1 := Lib.hid (o1.alloc (.cells #[.int .i64 s, .int .i64 t, .slice A1 0 c1, .slice B1 0 d1, .slice a1 xs.length e1] 60))
  have HB := Lib.hid (b1.alloc b1.size (.cells #[.int .i64 s, .int .i64 t, .slice A1 0 c1, .slice B1 0 d1, .slice a1 xs.length e1] 60))
  have Z1 := Lib.hid b1.size
  clear o1 b1
  go_wp2_with fail
  refine (HI.out _).mono ?_
  rintro e w2 ⟨A2, c2, B2, d2, v2, rfl, o2, b2⟩
  obtain ⟨a2, e2, rfl⟩ := o2.rd.slice
  simp only [World.size_alloc] at o2
  have Z2 := Lib.hid (show w1.heap.size + 1 ≤ w2.heap.size by have := b2.size; simpa using this)
  have W0 := Lib.hid ((W0.out.keep b2).alloc (.cells #[.int .i64 s, .int .i64 t, .slice A2 0 c2, .slice B2 0 d2, .slice a2 xs.length e2] 60))
  have O1 := Lib.hid ((O1.out.below b2 (by simp)).alloc (.cells #[.int .i64 s, .int .i64 t, .slice A2 0 c2, .slice B2 0 d2, .slice a2 xs.length e2] 60))
  have HB := Lib.hid ((HB.out.trans (b2.mono HB.out.size)).alloc (Nat.le_trans HB.out.size b2.size) (.cells #[.int .i64 s, .int .i64 t, .slice A2 0 c2, .slice B2 0 d2, .slice a2 xs.length e2] 60))
  have G0 := Lib.hid (Blk.new (w := w2) (b := w2.heap.size) #[.int .i64 s, .int .i64 t, .slice A2 0 c2, .slice B2 0 d2, .slice a2 xs.length e2] 60 rfl)
  have O2 := Lib.hid (o2.alloc (.cells #[.int .i64 s, .int .i64 t, .slice A2 0 c2, .slice B2 0 d2, .slice a2 xs.length e2] 60))
  clear o2 b2
  have k := G0.out
  have pc0 := k.at (i := 0) rfl
  have pc1 := k.at (i := 1) rfl
  have pc2 := k.at (i := 2) rfl
  have pc3 := k.at (i := 3) rfl
  have pc4 := k.at (i := 4) rfl
  clear k
  have k := W0.out
  have qc0 := k.at (i := 0) rfl
  have qc1 := k.at (i := 1) rfl
  have qc2 := k.at (i := 2) rfl
  have qc3 := k.at (i := 3) rfl
  have qc4 := k.at (i := 4) rfl
  clear k
  go_wp2_with fail
  refine (eqDatOut_open _ _ _ _ _ _ _ _ _ _ _ _ xs _ O2.out.rd O1.out.rd (by omega)).mono ?_
  rintro e w3 ⟨rfl, b3⟩
  clear pc0 pc1 pc2 pc3 pc4
  clear qc0 qc1 qc2 qc3 qc4
  have W0 := Lib.hid (W0.out.keep b3)
  have G0 := Lib.hid (G0.out.keep b3)
  have O1 := Lib.hid (O1.out.below b3 (by have := Z2.out; simp; omega))
  have O2 := Lib.hid (O2.out.below b3 (by simp))
  have HB := Lib.hid (HB.out.trans (b3.mono HB.out.size))
  clear b3
  have k := G0.out
  have pc0 := k.at (i := 0) rfl
  have pc1 := k.at (i := 1) rfl
  have pc2 := k.at (i := 2) rfl
  have pc3 := k.at (i := 3) rfl
  have pc4 := k.at (i := 4) rfl
  clear k
  go_wp2_with fail
  refine (markDatOut_open _ _ _ _ _ _ _ 1 xs _ _ _ O2.out (by omega) ⟨by omega, by omega⟩).mono ?_
  rintro e w4 ⟨rfl, o4, f4⟩
  clear pc0 pc1 pc2 pc3 pc4
  have W0 := Lib.hid (W0.out.fr f4 (.inl (by omega)))
  have G0 := Lib.hid (G0.out.fr f4 (.inr (Nat.le_refl _)))
  have O1 := Lib.hid (O1.out.fr f4 (.inl (by omega)))
  have HB := Lib.hid (HB.out.trans (f4.below (by have := Z1.out; omega) HB.out.size))
  have O4 := Lib.hid o4
  have S4 := Lib.hid G0.out.lt
  clear o4 f4 O2
  have k := G0.out
  have pc0 := k.at (i := 0) rfl
  have pc1 := k.at (i := 1) rfl
  have pc2 := k.at (i := 2) rfl
  have pc3 := k.at (i := 3) rfl
  have pc4 := k.at (i := 4) rfl
  clear k
  go_wp2_with fail
  refine (heldDatOut_open _ _ _ _ _ _ _ 1 xs.length _ O4.out.rd (by omega) ⟨by omega, by omega⟩).mono ?_
  rintro e w5 ⟨rfl, b5⟩
  clear pc0 pc1 pc2 pc3 pc4
  have W0 := Lib.hid (W0.out.keep b5)
  have G0 := Lib.hid (G0.out.keep b5)
  have O1 := Lib.hid (O1.out.below b5 (by have := Z2.out; have := S4.out; omega))
  have O4 := Lib.hid (O4.out.below b5 (by have := S4.out; omega))
  have HB := Lib.hid (HB.out.trans (b5.mono HB.out.size))
  clear b5
  go_wp2_with fail
  refine (HI.out _).mono ?_
  rintro e w6 ⟨A6, c6, B6, d6, v6, rfl, o6, b6⟩
  obtain ⟨a6, e6, rfl⟩ := o6.rd.slice
  have S5 := Lib.hid G0.out.lt
  have W0 := Lib.hid ((W0.out.keep b6).alloc (.cells #[.int .i64 s, .int .i64 t, .slice A6 0 c6, .slice B6 0 d6, .slice a6 xs.length e6] 60))
  have G0 := Lib.hid ((G0.out.keep b6).alloc (.cells #[.int .i64 s, .int .i64 t, .slice A6 0 c6, .slice B6 0 d6, .slice a6 xs.length e6] 60))
  have O1 := Lib.hid ((O1.out.below b6 (by have := Z2.out; have := S5.out; omega)).alloc (.cells #[.int .i64 s, .int .i64 t, .slice A6 0 c6, .slice B6 0 d6, .slice a6 xs.length e6] 60))
  have O4 := Lib.hid ((O4.out.below b6 (by have := S5.out; omega)).alloc (.cells #[.int .i64 s, .int .i64 t, .slice A6 0 c6, .slice B6 0 d6, .slice a6 xs.length e6] 60))
  have HB := Lib.hid ((HB.out.trans (b6.mono HB.out.size)).alloc (Nat.le_trans HB.out.size b6.size) (.cells #[.int .i64 s, .int .i64 t, .slice A6 0 c6, .slice B6 0 d6, .slice a6 xs.length e6] 60))
  have R6 := Lib.hid (o6.alloc (.cells #[.int .i64 s, .int .i64 t, .slice A6 0 c6, .slice B6 0 d6, .slice a6 xs.length e6] 60)).rd
  have S6 := Lib.hid (Nat.lt_of_lt_of_le S5.out b6.size)
  clear o6 b6
  have k := W0.out
  have qc0 := k.at (i := 0) rfl
  have qc1 := k.at (i := 1) rfl
  have qc2 := k.at (i := 2) rfl
  have qc3 := k.at (i := 3) rfl
  have qc4 := k.at (i := 4) rfl
  clear k
  go_wp2_with fail
  refine (eqDatOut_open _ _ _ _ _ _ _ _ _ _ _ _ xs _ R6.out O1.out.rd (by omega)).mono ?_
  rintro e w7 ⟨rfl, b7⟩
  clear qc0 qc1 qc2 qc3 qc4
  have G0 := Lib.hid (G0.out.keep b7)
  have O4 := Lib.hid (O4.out.below b7 (by have := S6.out; simp; omega))
  have HB := Lib.hid (HB.out.trans (b7.mono HB.out.size))
  clear b7
  have k := G0.out
  have pc0 := k.at (i := 0) rfl
  have pc1 := k.at (i := 1) rfl
  have pc2 := k.at (i := 2) rfl
  have pc3 := k.at (i := 3) rfl
  have pc4 := k.at (i := 4) rfl
  clear k
  go_wp2_with fail
  refine (heldDatOut_open _ _ _ _ _ _ _ 1 xs.length _ O4.out.rd (by omega) ⟨by omega, by omega⟩).mono ?_
  rintro e w8 ⟨rfl, b8⟩
  have HB := Lib.hid (HB.out.trans (b8.mono HB.out.size))
  clear b8
  clear pc0 pc1 pc2 pc3 pc4
  go_wp2
  go_ret
  exact ⟨rfl, HB.out⟩
theorem lawOutOpen (t0 s0 : Int) (w : World) : Calls Try.prog 10 #[.int .i64 t0, .int .i64 s0] w fun e w' => e = .returned (.bool true) ∧ Below w.heap.size w w' := by
  rcases h : openOk t0 s0 with _ | _
  · exact lawOutOpen_of t0 s0 0 0 [] (by simp) (specOutOpen_no t0 s0 h) (implOutOpen_no t0 s0 h) w
  · simp only [openOk, Bool.and_eq_true] at h
    have hb := inB_iff.1 h.2
    obtain ⟨n, rfl⟩ := Int.eq_ofNat_of_zero_le (a := s0) (by omega)
    exact lawOutOpen_of t0 n n t0 (List.replicate n 0) (by simp; omega) (specOutOpen_yes t0 n h.1 h.2) (implOutOpen_yes t0 n h.1 h.2) w
set_option maxRecDepth 100000 in
theorem outOpen_lifted (os : Os) (started : os.Started) (H : Type) (enc : TypeId × Value → H) :
    ReturnsInHanded {} Try.checked os 10 .any (Rows.fnExactDatOutOpenSpec.pre6 enc Try.prog Try.f10 Rows.fnExactDatOutOpenRow.domain false) (Rows.fnExactDatOutOpenSpec.post enc Try.prog Try.f10 false true false false) := by
  refine returnsInHanded_of_change (C := Try.checked) ownKnob_none started (by kernel_rfl) Try.func10
    (ChangeSpec.witness6 (enc := enc) (C := Try.checked) false ⟨#[], #[.int .i64 0, .int .i64 0], []⟩ 8 (by kernel_rfl) (by kernel_rfl) (by kernel_rfl) (by kernel_rfl)) ?_
  intro W base args ds gs before hval hW _ _
  have hW' := hW
  obtain ⟨p, q, hA, _⟩ := hW
  have hA' : DataW.TrodAll enc Try.prog W 0 (fun _ => true) true [3, 3] args.toList ds p := hA
  obtain ⟨v0, vs0, d0, ds0, p0, q0, hargs, rfl, rfl, h0, r0⟩ := trodAll_cons hA'
  obtain ⟨v1, vs1, d1, ds1, p1, q1, rfl, rfl, rfl, h1, r1⟩ := trodAll_cons r0
  obtain ⟨rfl, rfl, rfl⟩ := trodAll_nil r1
  obtain rfl : args = #[v0, v1] := by cases args; simp_all
  obtain ⟨a0, rfl, rfl, rfl, w0⟩ := open_int Try.underlying3 (hval 0 3 v0 rfl rfl) h0
  obtain ⟨a1, rfl, rfl, rfl, w1⟩ := open_int Try.underlying3 (hval 1 3 v1 rfl rfl) h1
  refine (lawOutOpen a0 a1 W).mono fun e W' ⟨he, hb⟩ => ?_
  subst he
  exact ⟨_, rfl, law_post (tb := 4) laidOut (by decide +kernel) rfl rfl Try.underlying4 (by rintro _ rfl; rfl) hW' hb⟩

theorem outOpen_proved : Rows.FnExactDatOutOpenSaid :=
  OpenClaim.holds_of_wide 10 Try.f10 rfl rfl rfl rfl rfl rfl rfl ⟨rfl, rfl, rfl, rfl, rfl⟩ rfl rfl rfl rfl rfl (by kernel_rfl) Try.func10 (by kernel_rfl)
    (of_decide_eq_true (by kernel_rfl)) (by unfold Func.isWrapper; first | (rw [if_pos (by decide +kernel)]; kernel_rfl) | (rw [if_neg (by decide +kernel)]; exact ⟨rfl, rfl⟩))
    (fun os started H enc _ => outOpen_lifted os started H enc)
#print axioms outOpen_proved
end Go.Proofs.Ytokanmihelmodaa
