/-
  OctWrite of the program answers at every argument as the model's OctWrite, writes nothing into its argument, and its answer is new memory (Rows.FnExactOctWriteSaid). No condition.
-/
import Derived.Test.YtegiifgeidccaaaOctWrite
import Derived.Test.YtegiifgeidccaaaRow
import Derived.Deep.Fields
import Derived.ChangeSame
namespace Go.Proofs.Ytegiifgeidccaaa
open Go.ChangeShapes Go.WideShapes Go.ChangeAt Go.RowKit Go.Deep
set_option linter.unusedVariables false

theorem OwB.frl {w w' : World} {lo hi : Nat} {v : Value} {xs : List UInt8} {bs : List Nat} (h : OwB w lo hi v xs) (hf : FrL bs w w') (hd : ∀ b ∈ bs, b < lo ∨ hi ≤ b) : OwB w' lo hi v xs := by
  refine ⟨⟨h.1.1, ?_⟩, h.2⟩
  rcases h.1.2 with hn | ⟨g, cap, cur, rfl, hb, hgg, rest⟩
  · exact .inl hn
  · refine .inr ⟨g, cap, cur, rfl, hb, ?_, rest⟩
    have := h.2 g rfl
    rw [hf.block g (Array.getElem?_eq_some_iff.1 hgg).1 (fun hm => by have := hd g hm; omega)]
    exact hgg

set_option maxRecDepth 100000 in
set_option maxHeartbeats 2000000 in
theorem lawWrite (v : Value) (xs : List Tlv) (w : World) (hv : RdS 2 FTlv w v xs) : Calls Try.prog 3 #[v] w fun e w' => e = .returned (.bool true) ∧ Below w.heap.size w w' := by
  have hwl := writeF_len xs
  have Hv := Lib.hid hv
  clear hv
  go_enter Try.func3, Try.ntmps3
  go_wp2_with fail
  refine (szOctTlvS_any _ xs _ Hv.out).mono ?_
  rintro e w1 ⟨⟨r, rfl, hr⟩, b1⟩
  have B1 := Lib.hid b1
  clear b1
  rcases hr with rfl | ⟨hr, hs⟩
  · go_wp2
    go_ret
    exact ⟨rfl, B1.out⟩
  have Hs := Lib.hid hs
  clear hs
  have R : ∀ w', Below w.heap.size w w' → RdS 2 FTlv w' v xs := fun w' hb => Hv.out.below (fun _ _ h => h.below hb) hb
  have HR := Lib.hid R
  clear R
  go_wp2_with fail
  refine (toOctTlvS_any _ xs _ (HR.out _ B1.out) Hs.out).mono ?_
  rintro e w2 ⟨v2, rfl, bs2, o2, _, _, b2⟩
  have B2 := Lib.hid (B1.out.trans (b2.mono B1.out.size))
  have R2 := Lib.hid (o2.rd (fun _ _ _ h => h.rd))
  clear o2 b2 B1
  go_wp2_with fail
  refine (specWrite_any _ xs _ R2.out).mono ?_
  rintro e w3 ⟨v3, rfl, o3, b3⟩
  have B3 := Lib.hid (B2.out.trans (b3.mono B2.out.size))
  have W0 := Lib.hid o3
  have S2 := Lib.hid B2.out.size
  clear o3 b3 B2 R2
  go_wp2_with fail
  refine (toOctTlvS_any _ xs _ (HR.out _ B3.out) Hs.out).mono ?_
  rintro e w4 ⟨v4, rfl, bs4, o4, n4, l4, b4⟩
  have B4 := Lib.hid (B3.out.trans (b4.mono B3.out.size))
  have W0 := Lib.hid (W0.out.below b4 (Nat.le_refl _))
  have X0 := Lib.hid o4
  have N4 := Lib.hid n4
  have L4 := Lib.hid l4
  have U4 := Lib.hid (o4.inside ETlv.inside)
  have S3 := Lib.hid B3.out.size
  have S34 := Lib.hid b4.size
  clear o4 b4 n4 l4 B3
  go_wp2_with fail
  refine (implWrite_any _ xs _ (X0.out.rd (fun _ _ _ h => h.rd))).mono ?_
  rintro e w5 ⟨v5, rfl, o5, b5⟩
  have B5 := Lib.hid (B4.out.trans (b5.mono B4.out.size))
  have W0 := Lib.hid (W0.out.below b5 S34.out)
  have X0 := Lib.hid (X0.out.below ETlv.framed ETlv.inside b5)
  have G0 := Lib.hid o5
  have S4 := Lib.hid B4.out.size
  have S45 := Lib.hid b5.size
  clear o5 b5 B4
  go_wp2_with fail
  refine (eqByteS_any _ _ _ _ _ G0.out.rd W0.out.rd (by omega) (by omega)).mono ?_
  rintro e w' ⟨rfl, d1, rfl⟩
  rw [beq_self_eq_true]
  have B6 := Lib.hid (below_drewN B5.out d1)
  have W0 := Lib.hid (W0.out.drewN d1)
  have G0 := Lib.hid (G0.out.drewN d1)
  have X0 := Lib.hid (X0.out.keep ETlv.framed (w' := w5.drewN d1) (fun _ _ => rfl))
  clear B5
  generalize hw6 : w5.drewN d1 = w6 at *
  have S46 := Lib.hid (show w4.heap.size ≤ w6.heap.size by rw [← hw6]; exact S45.out)
  have U0 := Lib.hid (show w5.heap.size = w6.heap.size by rw [← hw6]; rfl)
  clear hw6
  go_wp2_with fail
  refine (toOctTlvS_any _ xs _ (HR.out _ B6.out) Hs.out).mono ?_
  rintro e w7 ⟨v7, rfl, bs7, o7, _, _, b7⟩
  have B7 := Lib.hid (B6.out.trans (b7.mono B6.out.size))
  have W0 := Lib.hid (W0.out.below b7 (Nat.le_trans S34.out S46.out))
  have G0 := Lib.hid (G0.out.below b7 (by rw [U0.out]; exact Nat.le_refl _))
  have X0 := Lib.hid (X0.out.below ETlv.framed ETlv.inside b7)
  have R7 := Lib.hid (o7.rd (fun _ _ _ h => h.rd))
  have S67 := Lib.hid b7.size
  clear o7 b7 B6
  go_wp2_with fail
  refine (eqOctTlvS_same _ _ xs _ (X0.out.rd (fun _ _ _ h => h.rd)) R7.out Hs.out).mono ?_
  rintro e w8 ⟨rfl, b8⟩
  have B8 := Lib.hid (B7.out.trans (b8.mono B7.out.size))
  have W0 := Lib.hid (W0.out.below b8 (Nat.le_trans S34.out (Nat.le_trans S46.out S67.out)))
  have G0 := Lib.hid (G0.out.below b8 (by rw [U0.out]; exact S67.out))
  have X0 := Lib.hid (X0.out.below ETlv.framed ETlv.inside b8)
  have S78 := Lib.hid b8.size
  clear b8 B7 R7
  go_wp2_with fail
  refine (markOctTlvS_any _ _ _ xs _ X0.out N4.out (by omega) (by have := Hs.out; omega)).mono ?_
  rintro e w9 ⟨rfl, _, f9⟩
  have hm : (0 : Int) ≤ 1 + (szL szTlv xs : Nat) := by omega
  have B9 := Lib.hid (B8.out.trans (f9.below (fun b hb => Nat.le_trans S3.out (L4.out b hb)) B8.out.size))
  have W0 := Lib.hid (W0.out.frl f9 (fun b hb => .inr (L4.out b hb)))
  have G0 := Lib.hid (G0.out.frl f9 (fun b hb => .inl (U4.out b hb)))
  have S89 := Lib.hid f9.size
  clear f9 B8 X0
  generalize (1 + (szL szTlv xs : Nat) : Int) = mk at *
  go_wp2_with fail
  refine (eqByteS_any _ _ _ _ _ G0.out.rd W0.out.rd (by omega) (by omega)).mono ?_
  rintro e w' ⟨rfl, d2, rfl⟩
  rw [beq_self_eq_true]
  go_wp2_with fail
  refine (markByteS_any _ _ _ _ _ _ (G0.out.drewN _) (by omega) (by omega)).mono ?_
  rintro e w10 ⟨rfl, o10, f10⟩
  have W0 := Lib.hid ((W0.out.drewN _).fr f10 (.inl (Nat.le_trans S34.out (Nat.le_refl _))))
  have G0 := Lib.hid o10
  have B10 := Lib.hid ((below_drewN B9.out _).trans (f10.below S4.out (Nat.le_trans S4.out (Nat.le_trans S46.out (Nat.le_trans S67.out (Nat.le_trans S78.out S89.out))))))
  have S10 := Lib.hid (show w9.heap.size ≤ w10.heap.size from f10.size)
  clear o10 f10 B9
  go_wp2_with fail
  refine (heldByteS_any _ _ _ _ G0.out.rd (by omega) (by omega)).mono ?_
  rintro e w' ⟨rfl, rfl⟩
  go_wp2_with fail
  refine (toOctTlvS_any _ xs _ (HR.out _ B10.out) Hs.out).mono ?_
  rintro e w11 ⟨v11, rfl, bs11, o11, _, _, b11⟩
  have hsz := Nat.le_trans S46.out (Nat.le_trans S67.out (Nat.le_trans S78.out (Nat.le_trans S89.out S10.out)))
  have hsz2 : w5.heap.size ≤ w10.heap.size := by rw [U0.out]; exact (Nat.le_trans S67.out (Nat.le_trans S78.out (Nat.le_trans S89.out S10.out)))
  have B11 := Lib.hid (B10.out.trans (b11.mono B10.out.size))
  have W0 := Lib.hid (W0.out.below b11 (Nat.le_trans S34.out hsz))
  have G0 := Lib.hid (G0.out.below b11 hsz2)
  have R11 := Lib.hid (o11.rd (fun _ _ _ h => h.rd))
  have S11 := Lib.hid b11.size
  have Z1 := Lib.hid hsz
  have Z2 := Lib.hid hsz2
  clear o11 b11 B10 hsz hsz2
  go_wp2_with fail
  refine (implWrite_any _ xs _ R11.out).mono ?_
  rintro e w12 ⟨v12, rfl, o12, b12⟩
  have B12 := Lib.hid (B11.out.trans (b12.mono B11.out.size))
  have W0 := Lib.hid (W0.out.below b12 (Nat.le_trans S34.out (Nat.le_trans Z1.out S11.out)))
  have G0 := Lib.hid (G0.out.below b12 (Nat.le_trans Z2.out S11.out))
  have H0 := Lib.hid o12
  clear o12 b12 B11
  go_wp2_with fail
  refine (eqByteS_any _ _ _ _ _ H0.out.rd W0.out.rd (by omega) (by omega)).mono ?_
  rintro e w' ⟨rfl, d3, rfl⟩
  rw [beq_self_eq_true]
  go_wp2_with fail
  refine (heldByteS_any _ _ _ _ (G0.out.drewN _).rd (by omega) (by omega)).mono ?_
  rintro e w' ⟨rfl, rfl⟩
  go_wp2
  go_ret
  exact ⟨rfl, below_drewN B12.out _⟩

theorem cellsTlv : Try.prog.cellsOf 48 = 2 := by kernel_rfl
set_option maxRecDepth 100000 in
theorem open_tlvs {H : Type} {enc : TypeId × Value → H} {w : World} {r : Reach} {base b0 : Nat} {spare : Nat → Bool} {held : Bool} {v : Value} {d : DataW H} {ps : List MemPlace}
    (hval : Value.okWide Try.prog w r b0 22 v) (h : DataW.Trod enc Try.prog w base spare held 22 v d ps) : ∃ xs, RdS 2 FTlv w v xs := by
  obtain ⟨A, n, c, rfl⟩ := okWide_slice Try.underlying22 hval
  obtain ⟨fuel, hf⟩ := h
  refine open_rds Try.underlying22 cellsTlv (fun n cs y hl hy => ?_) hf
  obtain ⟨xs, n', _, _, _, hxl, hg⟩ := DataW.trod_struct Try.underlying48 hy
  match cs, hl with
  | [c0, c1], _ =>
    match xs, hxl with
    | [y0, y1], _ =>
      have h0 : DataW.trod enc Try.prog w base spare held n' 3 (([c0, c1].drop 0).take (Try.prog.cellsOf 3)) = some y0 := hg 0 _ rfl
      have h1 : DataW.trod enc Try.prog w base spare held n' 24 (([c0, c1].drop 1).take (Try.prog.cellsOf 24)) = some y1 := hg 1 _ rfl
      have k0 : Try.prog.cellsOf 3 = 1 := by kernel_rfl
      have k1 : Try.prog.cellsOf 24 = 1 := by kernel_rfl
      simp only [k0, k1, List.drop_zero, List.drop_succ_cons, List.take_succ_cons, List.take_zero] at h0 h1
      obtain ⟨q, h3, _, _⟩ := DataW.trod_int Try.underlying3 h0
      obtain ⟨bd, h4⟩ := open_rdb h1
      simp at h3
      subst h3
      exact ⟨⟨q, bd⟩, c1, rfl, h4⟩

set_option maxRecDepth 100000 in
theorem write_lifted (os : Os) (started : os.Started) (H : Type) (enc : TypeId × Value → H) :
    ReturnsInHanded {} Try.checked os 3 .any (Rows.fnExactOctWriteSpec.pre6 enc Try.prog Try.f3 Rows.fnExactOctWriteRow.domain false) (Rows.fnExactOctWriteSpec.post enc Try.prog Try.f3 false true false false) := by
  refine returnsInHanded_of_change (C := Try.checked) ownKnob_none started (by kernel_rfl) Try.func3
    (ChangeSpec.witness6 (enc := enc) (C := Try.checked) false ⟨#[], #[.slice none 0 0], []⟩ 8 (by kernel_rfl) (by kernel_rfl) (by kernel_rfl) (by kernel_rfl)) ?_
  intro W base args ds gs before hval hW _ _
  have hW' := hW
  obtain ⟨p, q, hA, _⟩ := hW
  have hA' : DataW.TrodAll enc Try.prog W 0 (fun _ => true) true [22] args.toList ds p := hA
  obtain ⟨v0, vs0, d0, ds0, p0, q0, hargs, rfl, rfl, h0, r0⟩ := trodAll_cons hA'
  obtain ⟨rfl, rfl, rfl⟩ := trodAll_nil r0
  obtain rfl : args = #[v0] := by cases args; simp_all
  obtain ⟨x0, hx0⟩ := open_tlvs (hval 0 22 v0 rfl rfl) h0
  refine (lawWrite v0 x0 W hx0).mono fun e W' ⟨he, hb⟩ => ?_
  subst he
  exact ⟨_, rfl, law_post (tb := 4) laidOut (by decide +kernel) rfl rfl Try.underlying4 (by rintro _ rfl; rfl) hW' hb⟩

theorem write_proved : Rows.FnExactOctWriteSaid :=
  OpenClaim.holds_of_wide 3 Try.f3 rfl rfl rfl rfl rfl rfl rfl ⟨rfl, rfl, rfl, rfl, rfl⟩ rfl rfl rfl rfl rfl (by kernel_rfl) Try.func3 (by kernel_rfl)
    (of_decide_eq_true (by kernel_rfl)) (by unfold Func.isWrapper; first | (rw [if_pos (by decide +kernel)]; kernel_rfl) | (rw [if_neg (by decide +kernel)]; exact ⟨rfl, rfl⟩))
    (fun os started H enc _ => write_lifted os started H enc)
#print axioms write_proved
end Go.Proofs.Ytegiifgeidccaaa
