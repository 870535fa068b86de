/-
  KeyMatch of the program answers at every argument as the model's KeyMatch, and writes nothing into its argument (Rows.FnExactKeyMatchSaid). No condition.
-/
import Derived.Test.YtiklahobnihhmaaKeyMatch
import Derived.Test.YtiklahobnihhmaaClKeyMatch
import Derived.Test.YtiklahobnihhmaaTyKeyRow
import Derived.Test.YtiklahobnihhmaaRow
import Derived.ChangeSame
namespace Go.Proofs.Ytiklahobnihhmaa
open Go.ChangeShapes Go.WideShapes Go.ChangeAt Go.RowKit
set_option linter.unusedVariables false
set_option linter.unusedSimpArgs false

set_option maxRecDepth 100000 in
set_option maxHeartbeats 1000000 in
theorem lawKeyMatch (f : List DKeyRow → Int → Int) (hs : ∀ v xs n0 w, RdKeyRowS w v xs → Calls Try.prog 29 #[v, .int .i64 n0] w fun e w' => e = .returned (.int .i64 (f xs n0)) ∧ Below w.heap.size w w')
    (hi : ∀ v xs n0 w, RdKeyRowS w v xs → Calls Try.prog 30 #[v, .int .i64 n0] w fun e w' => e = .returned (.int .i64 (f xs n0)) ∧ Below w.heap.size w w')
    (v : Value) (xs : List DKeyRow) (n0 : Int) (w : World) (h : RdKeyRowS w v xs) : Calls Try.prog 6 #[v, .int .i64 n0] w fun e w' => e = .returned (.bool true) ∧ Below w.heap.size w w' := by
  have HF := Lib.hid h
  have HS := Lib.hid hs
  have HI := Lib.hid hi
  clear hs hi h
  go_enter Try.func6, Try.ntmps6
  go_wp2_with fail
  refine (szKeyRowS_z _ xs _ _ HF.out ⟨by omega, by omega⟩).mono ?_
  rintro e w1 ⟨rfl, b1⟩
  have HB := Lib.hid b1
  clear b1
  have hr := szR_cases 1048576 xs.length (by omega)
  generalize szR 1048576 xs.length = r at *
  rcases hr with ⟨rfl, _⟩ | ⟨hr, _, ht⟩
  · go_wp2
    go_ret
    exact ⟨rfl, HB.out⟩
  have Hn := Lib.hid (show xs.length ≤ 1048576 by omega)
  clear ht
  go_wp2_with fail
  refine (toKeyRowS_n _ xs _ (HF.out.below HB.out) Hn.out).mono ?_
  rintro e w2 ⟨v2, f2, rfl, o2, n2, b2⟩
  have HB := Lib.hid (HB.out.trans (b2.mono HB.out.size))
  have O2 := Lib.hid o2.rd
  clear o2 n2 b2
  go_wp2_with fail
  refine (HS.out _ xs _ _ O2.out).mono ?_
  rintro e w3 ⟨rfl, b3⟩
  have HB := Lib.hid (HB.out.trans (b3.mono HB.out.size))
  clear b3 O2
  go_wp2_with fail
  refine (toKeyRowS_n _ xs _ (HF.out.below HB.out) Hn.out).mono ?_
  rintro e w4 ⟨v4, f4, rfl, o4, n4, b4⟩
  have HB := Lib.hid (HB.out.trans (b4.mono HB.out.size))
  have O4 := Lib.hid o4.rd
  clear o4 n4 b4
  go_wp2_with fail
  refine (HI.out _ xs _ _ O4.out).mono ?_
  rintro e w5 ⟨rfl, b5⟩
  have HB := Lib.hid (HB.out.trans (b5.mono HB.out.size))
  have O4 := Lib.hid (O4.out.below b5)
  clear b5
  generalize f xs n0 = ok
  go_wp2_with fail
  refine (toKeyRowS_n _ xs _ (HF.out.below HB.out) Hn.out).mono ?_
  rintro e w6 ⟨v6, f6, rfl, o6, n6, b6⟩
  have HB := Lib.hid (HB.out.trans (b6.mono HB.out.size))
  have O4 := Lib.hid (O4.out.below b6)
  have O6 := Lib.hid o6.rd
  clear o6 n6 b6
  go_wp2_with fail
  refine (eqKeyRowS_s _ _ xs _ O4.out O6.out Hn.out).mono ?_
  rintro e w7 ⟨rfl, b7⟩
  have HB := Lib.hid (HB.out.trans (b7.mono HB.out.size))
  clear b7
  go_wp2
  go_ret
  exact ⟨rfl, HB.out⟩
set_option maxRecDepth 100000 in
theorem keyMatch_lifted (os : Os) (started : os.Started) (H : Type) (enc : TypeId × Value → H) :
    ReturnsInHanded {} Try.checked os 6 .any (Rows.fnExactKeyMatchSpec.pre6 enc Try.prog Try.f6 Rows.fnExactKeyMatchRow.domain false) (Rows.fnExactKeyMatchSpec.post enc Try.prog Try.f6 false true false false) := by
  refine returnsInHanded_of_change (C := Try.checked) ownKnob_none started (by kernel_rfl) Try.func6
    (ChangeSpec.witness6 (enc := enc) (C := Try.checked) false ⟨#[], #[.slice none 0 0, .int .i64 0], []⟩ 8 (by kernel_rfl) (by kernel_rfl) (by kernel_rfl) (by kernel_rfl)) ?_
  intro W base args ds gs before hval hW _ _
  have hW' := hW
  obtain ⟨p, q, hA, _⟩ := hW
  have hA' : DataW.TrodAll enc Try.prog W 0 (fun _ => true) true [39, 3] args.toList ds p := hA
  obtain ⟨v0, vs0, d0, ds0, p0, q0, hargs, rfl, rfl, h0, r0⟩ := trodAll_cons hA'
  obtain ⟨v1, vs1, d1, ds1, p1, q1, rfl, rfl, rfl, h1, r1⟩ := trodAll_cons r0
  obtain ⟨rfl, rfl, rfl⟩ := trodAll_nil r1
  obtain rfl : args = #[v0, v1] := by cases args; simp_all
  obtain ⟨A, k, c, rfl⟩ := okWide_slice Try.underlying39 (hval 0 39 v0 rfl rfl)
  obtain ⟨fuel, hf⟩ := h0
  simp only [Value.cells] at hf
  obtain ⟨xs, hx⟩ := open_rds Try.underlying39 cells_KeyRow (fun n cs y hc h => read_KeyRow n cs y hc h) hf
  obtain ⟨a1, rfl, rfl, rfl, w1⟩ := open_int Try.underlying3 (hval 1 3 v1 rfl rfl) h1
  refine (lawKeyMatch _ (fun v xs n0 w h => specKeyMatch_r v xs n0 w h) (fun v xs n0 w h => implKeyMatch_r v xs n0 w h) _ xs a1 W hx).mono fun e W' ⟨he, hb⟩ => ?_
  subst he
  exact ⟨_, rfl, law_post (tb := 4) laidOut (by decide +kernel) rfl rfl Try.underlying4 (by rintro _ rfl; rfl) hW' hb⟩

theorem keyMatch_proved : Rows.FnExactKeyMatchSaid :=
  OpenClaim.holds_of_wide 6 Try.f6 rfl rfl rfl rfl rfl rfl rfl ⟨rfl, rfl, rfl, rfl, rfl⟩ rfl rfl rfl rfl rfl (by kernel_rfl) Try.func6 keyMatch_closed
    (of_decide_eq_true (by kernel_rfl)) (by unfold Func.isWrapper; first | (rw [if_pos (by decide +kernel)]; kernel_rfl) | (rw [if_neg (by decide +kernel)]; exact ⟨rfl, rfl⟩))
    (fun os started H enc _ => keyMatch_lifted os started H enc)
#print axioms keyMatch_proved
end Go.Proofs.Ytiklahobnihhmaa
