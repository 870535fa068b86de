/-
  DatUnitOk of the program answers at every argument as the model's DatUnitOk, and writes nothing into its argument (Rows.FnExactDatUnitOkSaid). No condition.
-/
import Derived.Test.YtokanmihelmodaaUnitOk
import Derived.Test.YtokanmihelmodaaRow
import Derived.ChangeSame
import Derived.Deep.RegionHeld3
namespace Go.Proofs.Ytokanmihelmodaa
open Go.ChangeShapes Go.WideShapes Go.ChangeAt Go.RowKit
set_option linter.unusedVariables false

theorem bool_cell {H : Type} {enc : TypeId × Value → H} {w : World} {base : Nat} {spare : Nat → Bool} {held : Bool} {n : Nat} {c : Value} {y : DataW H × List MemPlace} (h : DataW.trod enc Try.prog w base spare held n 4 [c] = some y) : ∃ b, c = .bool b := by
  obtain ⟨q, h3, _⟩ := DataW.trod_bool Try.underlying4 h
  exact ⟨q, by simpa using h3⟩
theorem int_cell {H : Type} {enc : TypeId × Value → H} {w : World} {base : Nat} {spare : Nat → Bool} {held : Bool} {n : Nat} {c : Value} {y : DataW H × List MemPlace} (h : DataW.trod enc Try.prog w base spare held n 3 [c] = some y) : ∃ q, c = .int .i64 q := by
  obtain ⟨q, h3, _, _⟩ := DataW.trod_int Try.underlying3 h
  exact ⟨q, by simpa using h3⟩
set_option maxRecDepth 100000 in
theorem open_DatUnit {H : Type} {enc : TypeId × Value → H} {w : World} {base b0 : Nat} {r : Reach} {spare : Nat → Bool} {held : Bool} {v : Value} {d : DataW H} {ps : List MemPlace}
    (hval : Value.okWide Try.prog w r b0 43 v) (h : DataW.Trod enc Try.prog w base spare held 43 v d ps) : ∃ (a0 : Int) (a1 : Int) (a2 : Bool) (a3 : Value) (x3 : List UInt8), v = .agg #[.int .i64 a0, .int .i64 a1, .bool a2, a3] ∧ RdB w a3 x3 := by
  obtain ⟨cs, rfl, hcs⟩ := okWide_struct Try.underlying43 hval
  have hk : Try.prog.cellsOf 43 = 4 := by kernel_rfl
  rw [hk] at hcs
  obtain ⟨fuel, hf⟩ := h
  simp only [Value.cells] at hf
  obtain ⟨xs, n', _, _, _, hxl, hg⟩ := DataW.trod_struct Try.underlying43 hf
  match cs, hcs with
  | ⟨[c0, c1, c2, c3]⟩, _ =>
    match xs, hxl with
    | [y0, y1, y2, y3], _ =>
      have kbool : Try.prog.cellsOf 4 = 1 := by kernel_rfl
      have kbytes : Try.prog.cellsOf 41 = 1 := by kernel_rfl
      have kint : Try.prog.cellsOf 3 = 1 := by kernel_rfl
      have h0 : DataW.trod enc Try.prog w base spare held n' 3 (([c0, c1, c2, c3].drop 0).take (Try.prog.cellsOf 3)) = some y0 := hg 0 _ rfl
      have h1 : DataW.trod enc Try.prog w base spare held n' 3 (([c0, c1, c2, c3].drop 1).take (Try.prog.cellsOf 3)) = some y1 := hg 1 _ rfl
      have h2 : DataW.trod enc Try.prog w base spare held n' 4 (([c0, c1, c2, c3].drop 2).take (Try.prog.cellsOf 4)) = some y2 := hg 2 _ rfl
      have h3 : DataW.trod enc Try.prog w base spare held n' 41 (([c0, c1, c2, c3].drop 3).take (Try.prog.cellsOf 41)) = some y3 := hg 3 _ rfl
      simp only [kbool, kbytes, kint, List.drop_zero, List.drop_succ_cons, List.take_succ_cons, List.take_zero] at h0 h1 h2 h3
      obtain ⟨a0, rfl⟩ := int_cell h0
      obtain ⟨a1, rfl⟩ := int_cell h1
      obtain ⟨a2, rfl⟩ := bool_cell h2
      obtain ⟨x3, g3⟩ := open_rdb h3
      exact ⟨a0, a1, a2, c3, x3, rfl, g3⟩

theorem s8 {x : World} {b c : Nat} {p0 p1 p2 p3 q0 q1 q2 q3 : Value} (h : Blk x b [p0, p1, p2, p3]) (k : Blk x c [q0, q1, q2, q3]) :
    x.cell? ⟨b, 0, none⟩ = some p0 ∧ x.cell? ⟨b, 1, none⟩ = some p1 ∧ x.cell? ⟨b, 2, none⟩ = some p2 ∧ x.cell? ⟨b, 3, none⟩ = some p3 ∧ x.cell? ⟨c, 0, none⟩ = some q0 ∧ x.cell? ⟨c, 1, none⟩ = some q1 ∧ x.cell? ⟨c, 2, none⟩ = some q2 ∧ x.cell? ⟨c, 3, none⟩ = some q3 :=
  ⟨h.at rfl, h.at rfl, h.at rfl, h.at rfl, k.at rfl, k.at rfl, k.at rfl, k.at rfl⟩
set_option maxRecDepth 100000 in
set_option maxHeartbeats 1000000 in
theorem lawUnitOk (a0 a1 : Int) (a2 : Bool) (v : Value) (xs : List UInt8) (w : World) (hv : RdB w v xs) : Calls Try.prog 8 #[.agg #[.int .i64 a0, .int .i64 a1, .bool a2, v]] w fun e w' => e = .returned (.bool true) ∧ Below w.heap.size w w' := by
  have K := Lib.hid (Blk.new (w := w) (b := w.heap.size) #[.int .i64 a0, .int .i64 a1, .bool a2, v] 43 rfl)
  have HB := Lib.hid ((Below.refl w.heap.size w).alloc (Nat.le_refl _) (.cells #[.int .i64 a0, .int .i64 a1, .bool a2, v] 43))
  have Hv := Lib.hid hv
  clear hv
  go_enter Try.func8, Try.ntmps8
  go_wp2_with fail
  refine (szDatUnit_any _ _ _ _ xs _ _ (Hv.out.below HB.out) ⟨by omega, by omega⟩).mono ?_
  rintro e w1 ⟨rfl, b1⟩
  have K := Lib.hid (K.out.keep b1)
  have HB := Lib.hid (HB.out.trans (b1.mono HB.out.size))
  clear b1
  have hr : szR 1048576 xs.length = -1 ∨ (0 ≤ szR 1048576 xs.length ∧ xs.length ≤ 1048576) := by unfold szR; split <;> omega
  generalize szR 1048576 xs.length = r at *
  rcases hr with rfl | ⟨hr, hn⟩
  · go_wp2
    go_ret
    exact ⟨rfl, HB.out⟩
  have Hn := Lib.hid hn
  clear hn
  have k := K.out
  have pc0 := k.at (i := 0) rfl
  have pc1 := k.at (i := 1) rfl
  have pc2 := k.at (i := 2) rfl
  have pc3 := k.at (i := 3) rfl
  clear k
  go_wp2_with fail
  refine (toDatUnit_any _ _ _ _ xs _ (Hv.out.below HB.out) (by have := Hn.out; omega)).mono ?_
  rintro e w2 ⟨v2, rfl, o2, b2⟩
  clear pc0 pc1 pc2 pc3
  have K := Lib.hid (K.out.keep b2)
  have HB := Lib.hid (HB.out.trans (b2.mono HB.out.size))
  clear b2
  have O2 := Lib.hid (row_owb o2).rd
  clear o2
  go_wp2_with fail
  refine (specUnitOk_any _ _ _ _ xs _ O2.out).mono ?_
  rintro e w3 ⟨rfl, b3⟩
  have K := Lib.hid (K.out.keep b3)
  have HB := Lib.hid (HB.out.trans (b3.mono HB.out.size))
  clear b3
  clear O2
  have k := K.out
  have pc0 := k.at (i := 0) rfl
  have pc1 := k.at (i := 1) rfl
  have pc2 := k.at (i := 2) rfl
  have pc3 := k.at (i := 3) rfl
  clear k
  go_wp2_with fail
  refine (toDatUnit_any _ _ _ _ xs _ (Hv.out.below HB.out) (by have := Hn.out; omega)).mono ?_
  rintro e w4 ⟨v4, rfl, o4, b4⟩
  obtain ⟨A4, c4, rfl⟩ := (row_owb o4).rd.slice
  clear pc0 pc1 pc2 pc3
  have K := Lib.hid (K.out.keep b4)
  have HB := Lib.hid (HB.out.trans (b4.mono HB.out.size))
  clear b4
  have O4 := Lib.hid ((row_owb o4).rd.below ((Below.refl _ _).alloc (Nat.le_refl _) (.cells #[.int .i64 a0, .int .i64 a1, .bool a2, .slice A4 xs.length c4] 46)))
  clear o4
  have X := Lib.hid (Blk.new (w := w4) (b := w4.heap.size) #[.int .i64 a0, .int .i64 a1, .bool a2, .slice A4 xs.length c4] 46 rfl)
  have K := Lib.hid (K.out.alloc (.cells #[.int .i64 a0, .int .i64 a1, .bool a2, .slice A4 xs.length c4] 46))
  have HB := Lib.hid (HB.out.alloc HB.out.size (.cells #[.int .i64 a0, .int .i64 a1, .bool a2, .slice A4 xs.length c4] 46))
  go_wp2_with fail
  refine (implUnitOk_any _ _ _ _ xs _ O4.out).mono ?_
  rintro e w5 ⟨rfl, b5⟩
  have K := Lib.hid (K.out.keep b5)
  have HB := Lib.hid (HB.out.trans (b5.mono HB.out.size))
  have X := Lib.hid (X.out.keep b5)
  have O4 := Lib.hid (O4.out.below b5)
  clear b5
  have X5 := Lib.hid X.out.drew
  have K5 := Lib.hid K.out.drew
  clear X K
  generalize unitOk a0 a1 xs.length = ok
  go_wp2_with fail
  go_region_held3 (fun x => x.cell? ⟨w4.heap.size, 0, none⟩ = some (.int .i64 a0) ∧ x.cell? ⟨w4.heap.size, 1, none⟩ = some (.int .i64 a1) ∧ x.cell? ⟨w4.heap.size, 2, none⟩ = some (.bool a2) ∧ x.cell? ⟨w4.heap.size, 3, none⟩ = some (.slice A4 xs.length c4) ∧ x.cell? ⟨w.heap.size, 0, none⟩ = some (.int .i64 a0) ∧ x.cell? ⟨w.heap.size, 1, none⟩ = some (.int .i64 a1) ∧ x.cell? ⟨w.heap.size, 2, none⟩ = some (.bool a2) ∧ x.cell? ⟨w.heap.size, 3, none⟩ = some (v)) (first | (with_reducible exact s8 X5.out K5.out) | (with_reducible exact s8 X6.out K6.out) | (with_reducible exact s8 X7.out K7.out)) (first | (go_at_call 32; refine (toDatUnit_any _ _ _ _ xs _ (Hv.out.below HB.out.drew) (by have := Hn.out; omega)).mono ?_; rintro e w6 ⟨v6, rfl, o6, b6⟩; have O6 := Lib.hid (row_owb o6).rd; have O46 := Lib.hid ((O4.out.below (Below.refl _ _).drew).below b6); have X6 := Lib.hid (X5.out.keep b6); have K6 := Lib.hid (K5.out.keep b6); have HB6 := Lib.hid (HB.out.drew.trans (b6.mono HB.out.size)); clear o6 b6) | (go_at_call 34; refine (eqDatUnit_same _ _ _ _ _ xs _ O46.out O6.out (by have := Hn.out; omega)).mono ?_; rintro e w7 ⟨rfl, b7⟩; have X7 := Lib.hid (X6.out.keep b7); have K7 := Lib.hid (K6.out.keep b7); have HB7 := Lib.hid (HB6.out.trans (b7.mono HB6.out.size)); clear b7))
  go_wp2
  go_ret
  exact ⟨rfl, HB7.out⟩
set_option maxRecDepth 100000 in
theorem unitOk_lifted (os : Os) (started : os.Started) (H : Type) (enc : TypeId × Value → H) :
    ReturnsInHanded {} Try.checked os 8 .any (Rows.fnExactDatUnitOkSpec.pre6 enc Try.prog Try.f8 Rows.fnExactDatUnitOkRow.domain false) (Rows.fnExactDatUnitOkSpec.post enc Try.prog Try.f8 false true false false) := by
  refine returnsInHanded_of_change (C := Try.checked) ownKnob_none started (by kernel_rfl) Try.func8
    (ChangeSpec.witness6 (enc := enc) (C := Try.checked) false ⟨#[], #[.agg #[.int .i64 0, .int .i64 0, .bool false, .slice none 0 0]], []⟩ 8 (by kernel_rfl) (by kernel_rfl) (by kernel_rfl) (by kernel_rfl)) ?_
  intro W base args ds gs before hval hW _ _
  have hW' := hW
  obtain ⟨p, q, hA, _⟩ := hW
  have hA' : DataW.TrodAll enc Try.prog W 0 (fun _ => true) true [43] args.toList ds p := hA
  obtain ⟨v0, vs0, d0, ds0, p0, q0, hargs, rfl, rfl, h0, r0⟩ := trodAll_cons hA'
  obtain ⟨rfl, rfl, rfl⟩ := trodAll_nil r0
  obtain rfl : args = #[v0] := by cases args; simp_all
  obtain ⟨a0, a1, a2, a3, x3, rfl, g3⟩ := open_DatUnit (hval 0 43 v0 rfl rfl) h0
  refine (lawUnitOk a0 a1 a2 a3 x3 W g3).mono fun e W' ⟨he, hb⟩ => ?_
  subst he
  exact ⟨_, rfl, law_post (tb := 4) laidOut (by decide +kernel) rfl rfl Try.underlying4 (by rintro _ rfl; rfl) hW' hb⟩

theorem unitOk_proved : Rows.FnExactDatUnitOkSaid :=
  OpenClaim.holds_of_wide 8 Try.f8 rfl rfl rfl rfl rfl rfl rfl ⟨rfl, rfl, rfl, rfl, rfl⟩ rfl rfl rfl rfl rfl (by kernel_rfl) Try.func8 (by kernel_rfl)
    (of_decide_eq_true (by kernel_rfl)) (by unfold Func.isWrapper; first | (rw [if_pos (by decide +kernel)]; kernel_rfl) | (rw [if_neg (by decide +kernel)]; exact ⟨rfl, rfl⟩))
    (fun os started H enc _ => unitOk_lifted os started H enc)
#print axioms unitOk_proved
end Go.Proofs.Ytokanmihelmodaa
