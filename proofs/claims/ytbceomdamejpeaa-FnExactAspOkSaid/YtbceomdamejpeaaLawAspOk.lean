/-
  AspOk of the program answers at every argument as the model's AspOk, and writes nothing into its argument (Rows.FnExactAspOkSaid). No condition.
-/
import Derived.Test.YtbceomdamejpeaaAspOkS
import Derived.Test.YtbceomdamejpeaaAspOkM
import Derived.Test.YtbceomdamejpeaaClAspOk
import Derived.Test.YtbceomdamejpeaaTyAspBook
import Derived.Test.YtbceomdamejpeaaRow
import Derived.ChangeSame
import Derived.Deep.RegionHeld3
namespace Go.Proofs.Ytbceomdamejpeaa
open Go.ChangeShapes Go.WideShapes Go.ChangeAt Go.RowKit
set_option linter.unusedVariables false
set_option linter.unusedSimpArgs false

theorem scaspOk {x : World} {b c : Nat} {p0 p1 q0 q1 : Value} (h : Blk x b [p0, p1]) (k : Blk x c [q0, q1]) :
    x.cell? ⟨b, 0, none⟩ = some p0 ∧ x.cell? ⟨b, 1, none⟩ = some p1 ∧ x.cell? ⟨c, 0, none⟩ = some q0 ∧ x.cell? ⟨c, 1, none⟩ = some q1 :=
  ⟨h.at rfl, h.at rfl, k.at rfl, k.at rfl⟩
set_option maxRecDepth 100000 in
set_option maxHeartbeats 2000000 in
theorem lawAspOk (f : DAspBook → Bool) (hs : ∀ cs x w, FAspBook w cs x → Calls Try.prog 37 #[.agg cs.toArray] w fun e w' => e = .returned (.bool (f x)) ∧ Below w.heap.size w w')
    (hi : ∀ cs x w, FAspBook w cs x → zAspBook x ≤ 1048576 → Calls Try.prog 39 #[.agg cs.toArray] w fun e w' => e = .returned (.bool (f x)) ∧ Below w.heap.size w w')
    (cs : List Value) (x : DAspBook) (w : World) (h : FAspBook w cs x) : Calls Try.prog 6 #[.agg cs.toArray] w fun e w' => e = .returned (.bool true) ∧ Below w.heap.size w w' := by
  have HF := Lib.hid h
  have HS := Lib.hid hs
  have HI := Lib.hid hi
  clear hs hi
  obtain ⟨v0, v1, rfl, h0, h1⟩ := h
  have K := Lib.hid (Blk.new (w := w) (b := w.heap.size) #[v0, v1] 53 rfl)
  have HB := Lib.hid ((Below.refl w.heap.size w).alloc (Nat.le_refl _) (.cells #[v0, v1] 53))
  clear h0 h1
  go_enter Try.func6, Try.ntmps6
  go_wp2_with fail
  refine (szAspBook_z _ x _ _ (HF.out.below HB.out) ⟨by omega, by omega⟩).mono ?_
  rintro e w1 ⟨rfl, b1⟩
  have K := Lib.hid (K.out.keep b1)
  have HB := Lib.hid (HB.out.trans (b1.mono HB.out.size))
  clear b1
  have hr := szR_cases 1048576 (zAspBook x) (by omega)
  generalize szR 1048576 (zAspBook x) = r at *
  rcases hr with ⟨rfl, _⟩ | ⟨hr, _, ht⟩
  · go_wp2
    go_ret
    exact ⟨rfl, HB.out⟩
  have Hn := Lib.hid (show zAspBook x ≤ 1048576 by omega)
  clear ht
  have pc0 := K.out.at (i := 0) rfl
  have pc1 := K.out.at (i := 1) rfl
  go_wp2_with fail
  refine (toAspBook_n _ x _ (HF.out.below HB.out) Hn.out).mono ?_
  rintro e w2 ⟨cs2, f2, rfl, o2, n2, b2⟩
  have K := Lib.hid (K.out.keep b2)
  have HB := Lib.hid (HB.out.trans (b2.mono HB.out.size))
  clear pc0 pc1
  have O2 := Lib.hid o2.rd
  clear o2 n2 b2
  go_wp2_with fail
  refine (HS.out _ x _ O2.out).mono ?_
  rintro e w3 ⟨rfl, b3⟩
  have K := Lib.hid (K.out.keep b3)
  have HB := Lib.hid (HB.out.trans (b3.mono HB.out.size))
  clear b3 O2
  have pc0 := K.out.at (i := 0) rfl
  have pc1 := K.out.at (i := 1) rfl
  go_wp2_with fail
  refine (toAspBook_n _ x _ (HF.out.below HB.out) Hn.out).mono ?_
  rintro e w4 ⟨cs4, f4, rfl, o4, n4, b4⟩
  have O4 := Lib.hid o4.rd
  obtain ⟨zv0, zv1, zf0, zf1, rfl, zo0, zo1, rfl⟩ := o4
  obtain ⟨A0, c0, rfl⟩ := zo0.rd.slice
  clear zo0
  obtain ⟨A1, c1, rfl⟩ := zo1.rd.slice
  clear zo1
  clear pc0 pc1
  have K := Lib.hid (K.out.keep b4)
  have HB := Lib.hid (HB.out.trans (b4.mono HB.out.size))
  clear b4 n4
  have O4 := Lib.hid (O4.out.below ((Below.refl _ _).alloc (Nat.le_refl _) (.cells #[.slice A0 x.xWish.length c0, .slice A1 x.xGates.length c1] 58)))
  have X := Lib.hid (Blk.new (w := w4) (b := w4.heap.size) #[.slice A0 x.xWish.length c0, .slice A1 x.xGates.length c1] 58 rfl)
  have K := Lib.hid (K.out.alloc (.cells #[.slice A0 x.xWish.length c0, .slice A1 x.xGates.length c1] 58))
  have HB := Lib.hid (HB.out.alloc HB.out.size (.cells #[.slice A0 x.xWish.length c0, .slice A1 x.xGates.length c1] 58))
  go_wp2_with fail
  refine (HI.out _ x _ O4.out Hn.out).mono ?_
  rintro e w5 ⟨rfl, b5⟩
  have K := Lib.hid (K.out.keep b5)
  have HB := Lib.hid (HB.out.trans (b5.mono HB.out.size))
  have X := Lib.hid (X.out.keep b5)
  have O4 := Lib.hid (O4.out.below b5)
  clear b5
  have X5 := Lib.hid X.out.drew
  have K5 := Lib.hid K.out.drew
  clear X K
  generalize f x = ok
  go_wp2_with fail
  go_region_held3 (fun y => y.cell? ⟨w4.heap.size, 0, none⟩ = some (.slice A0 x.xWish.length c0) ∧ y.cell? ⟨w4.heap.size, 1, none⟩ = some (.slice A1 x.xGates.length c1) ∧ y.cell? ⟨w.heap.size, 0, none⟩ = some (v0) ∧ y.cell? ⟨w.heap.size, 1, none⟩ = some (v1)) (first | (with_reducible exact scaspOk X5.out K5.out) | (with_reducible exact scaspOk X6.out K6.out) | (with_reducible exact scaspOk X7.out K7.out)) (first | (go_at_call 38; refine (toAspBook_n _ x _ (HF.out.below HB.out.drew) Hn.out).mono ?_; rintro e w6 ⟨cs6, f6, rfl, o6, n6, b6⟩; have O6 := Lib.hid o6.rd; have O46 := Lib.hid ((O4.out.below (Below.refl _ _).drew).below b6); have X6 := Lib.hid (X5.out.keep b6); have K6 := Lib.hid (K5.out.keep b6); have HB6 := Lib.hid (HB.out.drew.trans (b6.mono HB.out.size)); clear o6 n6 b6) | (go_at_call 40; refine (eqAspBook_s _ _ x _ O46.out O6.out Hn.out).mono ?_; rintro e w7 ⟨rfl, b7⟩; have X7 := Lib.hid (X6.out.keep b7); have K7 := Lib.hid (K6.out.keep b7); have HB7 := Lib.hid (HB6.out.trans (b7.mono HB6.out.size)); clear b7))
  go_wp2
  go_ret
  exact ⟨rfl, HB7.out⟩
set_option maxRecDepth 100000 in
theorem aspOk_lifted (os : Os) (started : os.Started) (H : Type) (enc : TypeId × Value → H) :
    ReturnsInHanded {} Try.checked os 6 .any (Rows.fnExactAspOkSpec.pre6 enc Try.prog Try.f6 Rows.fnExactAspOkRow.domain false) (Rows.fnExactAspOkSpec.post enc Try.prog Try.f6 false true false false) := by
  refine returnsInHanded_of_change (C := Try.checked) ownKnob_none started (by kernel_rfl) Try.func6
    (ChangeSpec.witness6 (enc := enc) (C := Try.checked) false ⟨#[], #[.agg #[.slice none 0 0, .slice none 0 0]], []⟩ 8 (by kernel_rfl) (by kernel_rfl) (by kernel_rfl) (by kernel_rfl)) ?_
  intro W base args ds gs before hval hW _ _
  have hW' := hW
  obtain ⟨p, q, hA, _⟩ := hW
  have hA' : DataW.TrodAll enc Try.prog W 0 (fun _ => true) true [53] args.toList ds p := hA
  obtain ⟨u0, vs0, d0, ds0, p0, q0, hargs, rfl, rfl, h0, r0⟩ := trodAll_cons hA'
  obtain ⟨rfl, rfl, rfl⟩ := trodAll_nil r0
  obtain rfl : args = #[u0] := by cases args; simp_all
  obtain ⟨cs, rfl, hcs⟩ := okWide_struct Try.underlying53 (hval 0 53 u0 rfl rfl)
  rw [cells_AspBook] at hcs
  obtain ⟨fuel, hf⟩ := h0
  simp only [Value.cells] at hf
  obtain ⟨x, hx⟩ := read_AspBook _ _ _ (by simpa using hcs) hf
  refine (lawAspOk _ (fun cs x w h => specAspOk_r cs x w h) (fun cs x w h hz => implAspOk_r cs x w h hz) cs.toList x W hx).mono fun e W' ⟨he, hb⟩ => ?_
  subst he
  exact ⟨_, rfl, law_post (tb := 4) laidOut (by decide +kernel) rfl rfl Try.underlying4 (by rintro _ rfl; rfl) hW' hb⟩

theorem aspOk_proved : Rows.FnExactAspOkSaid :=
  OpenClaim.holds_of_wide 6 Try.f6 rfl rfl rfl rfl rfl rfl rfl ⟨rfl, rfl, rfl, rfl, rfl⟩ rfl rfl rfl rfl rfl (by kernel_rfl) Try.func6 aspOk_closed
    (of_decide_eq_true (by kernel_rfl)) (by unfold Func.isWrapper; first | (rw [if_pos (by decide +kernel)]; kernel_rfl) | (rw [if_neg (by decide +kernel)]; exact ⟨rfl, rfl⟩))
    (fun os started H enc _ => aspOk_lifted os started H enc)
#print axioms aspOk_proved
end Go.Proofs.Ytbceomdamejpeaa
