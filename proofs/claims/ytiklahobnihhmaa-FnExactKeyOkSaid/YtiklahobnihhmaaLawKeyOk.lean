/-
  KeyOk of the program answers at every argument as the model's KeyOk, and writes nothing into its argument (Rows.FnExactKeyOkSaid). No condition.
-/
import Derived.Test.YtiklahobnihhmaaKeyOkS
import Derived.Test.YtiklahobnihhmaaClKeyOk
import Derived.Test.YtiklahobnihhmaaTyKeyRow
import Derived.Test.YtiklahobnihhmaaRow
import Derived.ChangeSame
namespace Go.Proofs.Ytiklahobnihhmaa
open Go.ChangeShapes Go.WideShapes Go.ChangeAt Go.RowKit
set_option linter.unusedVariables false
set_option linter.unusedSimpArgs false

set_option maxRecDepth 100000 in
set_option maxHeartbeats 1000000 in
theorem lawKeyOk (f : List DKeyRow → Bool) (hs : ∀ v xs w, RdKeyRowS w v xs → Calls Try.prog 25 #[v] w fun e w' => e = .returned (.bool (f xs)) ∧ Below w.heap.size w w')
    (hi : ∀ v xs w, RdKeyRowS w v xs → Calls Try.prog 27 #[v] w fun e w' => e = .returned (.bool (f xs)) ∧ Below w.heap.size w w')
    (v : Value) (xs : List DKeyRow) (w : World) (h : RdKeyRowS w v xs) : Calls Try.prog 5 #[v] w fun e w' => e = .returned (.bool true) ∧ Below w.heap.size w w' := by
  have HF := Lib.hid h
  have HS := Lib.hid hs
  have HI := Lib.hid hi
  clear hs hi h
  go_enter Try.func5, Try.ntmps5
  go_wp2_with fail
  refine (szKeyRowS_z _ xs _ _ HF.out ⟨by omega, by omega⟩).mono ?_
  rintro e w1 ⟨rfl, b1⟩
  have HB := Lib.hid b1
  clear b1
  have hr := szR_cases 1048576 xs.length (by omega)
  generalize szR 1048576 xs.length = r at *
  rcases hr with ⟨rfl, _⟩ | ⟨hr, _, ht⟩
  · go_wp2
    go_ret
    exact ⟨rfl, HB.out⟩
  have Hn := Lib.hid (show xs.length ≤ 1048576 by omega)
  clear ht
  go_wp2_with fail
  refine (toKeyRowS_n _ xs _ (HF.out.below HB.out) Hn.out).mono ?_
  rintro e w2 ⟨v2, f2, rfl, o2, n2, b2⟩
  have HB := Lib.hid (HB.out.trans (b2.mono HB.out.size))
  have O2 := Lib.hid o2.rd
  clear o2 n2 b2
  go_wp2_with fail
  refine (HS.out _ xs _ O2.out).mono ?_
  rintro e w3 ⟨rfl, b3⟩
  have HB := Lib.hid (HB.out.trans (b3.mono HB.out.size))
  clear b3 O2
  go_wp2_with fail
  refine (toKeyRowS_n _ xs _ (HF.out.below HB.out) Hn.out).mono ?_
  rintro e w4 ⟨v4, f4, rfl, o4, n4, b4⟩
  have HB := Lib.hid (HB.out.trans (b4.mono HB.out.size))
  have O4 := Lib.hid o4.rd
  clear o4 n4 b4
  go_wp2_with fail
  refine (HI.out _ xs _ O4.out).mono ?_
  rintro e w5 ⟨rfl, b5⟩
  have HB := Lib.hid (HB.out.trans (b5.mono HB.out.size))
  have O4 := Lib.hid (O4.out.below b5)
  clear b5
  generalize f xs = ok
  go_wp2_with fail
  refine (toKeyRowS_n _ xs _ (HF.out.below HB.out) Hn.out).mono ?_
  rintro e w6 ⟨v6, f6, rfl, o6, n6, b6⟩
  have HB := Lib.hid (HB.out.trans (b6.mono HB.out.size))
  have O4 := Lib.hid (O4.out.below b6)
  have O6 := Lib.hid o6.rd
  clear o6 n6 b6
  go_wp2_with fail
  refine (eqKeyRowS_s _ _ xs _ O4.out O6.out Hn.out).mono ?_
  rintro e w7 ⟨rfl, b7⟩
  have HB := Lib.hid (HB.out.trans (b7.mono HB.out.size))
  clear b7
  go_wp2
  go_ret
  exact ⟨rfl, HB.out⟩
set_option maxRecDepth 100000 in
theorem keyOk_lifted (os : Os) (started : os.Started) (H : Type) (enc : TypeId × Value → H) :
    ReturnsInHanded {} Try.checked os 5 .any (Rows.fnExactKeyOkSpec.pre6 enc Try.prog Try.f5 Rows.fnExactKeyOkRow.domain false) (Rows.fnExactKeyOkSpec.post enc Try.prog Try.f5 false true false false) := by
  refine returnsInHanded_of_change (C := Try.checked) ownKnob_none started (by kernel_rfl) Try.func5
    (ChangeSpec.witness6 (enc := enc) (C := Try.checked) false ⟨#[], #[.slice none 0 0], []⟩ 8 (by kernel_rfl) (by kernel_rfl) (by kernel_rfl) (by kernel_rfl)) ?_
  intro W base args ds gs before hval hW _ _
  have hW' := hW
  obtain ⟨p, q, hA, _⟩ := hW
  have hA' : DataW.TrodAll enc Try.prog W 0 (fun _ => true) true [39] args.toList ds p := hA
  obtain ⟨v0, vs0, d0, ds0, p0, q0, hargs, rfl, rfl, h0, r0⟩ := trodAll_cons hA'
  obtain ⟨rfl, rfl, rfl⟩ := trodAll_nil r0
  obtain rfl : args = #[v0] := by cases args; simp_all
  obtain ⟨A, k, c, rfl⟩ := okWide_slice Try.underlying39 (hval 0 39 v0 rfl rfl)
  obtain ⟨fuel, hf⟩ := h0
  simp only [Value.cells] at hf
  obtain ⟨xs, hx⟩ := open_rds Try.underlying39 cells_KeyRow (fun n cs y hc h => read_KeyRow n cs y hc h) hf
  refine (lawKeyOk _ (fun v xs w h => specKeyOk_r v xs w h) (fun v xs w h => implKeyOk_r v xs w h) _ xs W hx).mono fun e W' ⟨he, hb⟩ => ?_
  subst he
  exact ⟨_, rfl, law_post (tb := 4) laidOut (by decide +kernel) rfl rfl Try.underlying4 (by rintro _ rfl; rfl) hW' hb⟩

theorem keyOk_proved : Rows.FnExactKeyOkSaid :=
  OpenClaim.holds_of_wide 5 Try.f5 rfl rfl rfl rfl rfl rfl rfl ⟨rfl, rfl, rfl, rfl, rfl⟩ rfl rfl rfl rfl rfl (by kernel_rfl) Try.func5 keyOk_closed
    (of_decide_eq_true (by kernel_rfl)) (by unfold Func.isWrapper; first | (rw [if_pos (by decide +kernel)]; kernel_rfl) | (rw [if_neg (by decide +kernel)]; exact ⟨rfl, rfl⟩))
    (fun os started H enc _ => keyOk_lifted os started H enc)
#print axioms keyOk_proved
end Go.Proofs.Ytiklahobnihhmaa
