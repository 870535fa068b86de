/-
  A destination is of one range at most, and a choice always goes the same way (Rows.FnKeySaid). No condition.
-/
import Derived.Test.YtbceikhmoblacaaDrawK3
import Derived.Test.YtbceikhmoblacaaKeyOnly
import Derived.Test.YtbceikhmoblacaaClFnKey
import Derived.Test.YtbceikhmoblacaaRow
import Derived.BigQuiet
namespace Go.Proofs.Ytbceikhmoblacaa
open Go.ChangeShapes Go.WideShapes Go.ChangeAt Go.RowKit
set_option linter.unusedVariables false
set_option linter.unusedSimpArgs false

theorem stream_facts (s n : Int) : (n < 1 → streamF s n = 0 ∧ turnF s n = 0) ∧ (1 ≤ n → (0 ≤ streamF s n ∧ streamF s n < n) ∧ (0 ≤ turnF s n ∧ turnF s n < n) ∧ (n ≠ 1 → 0 < streamF s n)) := by
  refine ⟨fun h => ⟨by unfold streamF; rw [if_pos (by omega)], by unfold turnF; rw [if_pos h]⟩, fun h => ?_⟩
  have h1 := turn_bd s n h
  refine ⟨?_, h1, fun hn => ?_⟩
  · unfold streamF
    split
    · omega
    · have := turn_bd s (n - 1) (by omega); omega
  · unfold streamF
    rw [if_neg (by omega)]
    have := turn_bd s (n - 1) (by omega); omega
set_option maxRecDepth 100000 in
set_option maxHeartbeats 4000000 in
theorem lawFnKey (v0 : Value) (x0 : List UInt8) (v1 : Value) (x1 : List UInt8) (w : World) (h0 : RdB w v0 x0) (h1 : RdB w v1 x1) : Calls Try.prog 5 #[v0, v1] w fun e w' => e = .returned (.bool true) ∧ Below w.heap.size w w' := by
  obtain ⟨A0, c0, rfl⟩ := id h0.slice
  obtain ⟨A1, c1, rfl⟩ := id h1.slice
  have R0 := Lib.hid h0
  have R1 := Lib.hid h1
  clear h0 h1
  generalize hl0 : x0.length = n0 at *
  generalize hl1 : x1.length = n1 at *
  clear hl0 hl1
  rcases Nat.lt_or_ge 1048576 n0 with hb0 | hb0
  · go_enter Try.func5, Try.ntmps5
    go_wp2
    go_ret
    exact ⟨rfl, Below.refl _ _⟩
  rcases Nat.lt_or_ge 1048576 n1 with hb1 | hb1
  · go_enter Try.func5, Try.ntmps5
    go_wp2
    go_ret
    exact ⟨rfl, Below.refl _ _⟩
  have hc0 : ((1048576 : Int) < (n0 : Int)) = False := by simp; omega
  have hc1 : ((1048576 : Int) < (n1 : Int)) = False := by simp; omega
  go_enter Try.func5, Try.ntmps5
  go_wp2_with fail
  refine (drawKeyMatch_any _ x0 _ R0.out).mono ?_
  rintro e w1 ⟨u, ks, d, rfl, hk, hlen, b1⟩
  obtain ⟨A, c, rfl⟩ := RdS.slice hk
  have HK := Lib.hid hk
  have HB := Lib.hid b1
  have hcap := RdS.cap hk
  clear hk b1 hc0 hc1 hb0 hb1
  have Hon := Lib.hid (show keyOkF ks = true → ∀ (j : Nat) (x : DKeyRow), ks[j]? = some x → decide ((j : Int) = keyMatchF ks d) = inB d x.xLow x.xHigh from fun h j x hx => by obtain ⟨hj, rfl⟩ := List.getElem?_eq_some_iff.1 hx; exact key_only h hj)
  generalize hl : ks.length = n at *
  have Hl := Lib.hid hl
  clear hl
  go_wp2_with fail
  refine (implKeyMatch_r _ ks d _ HK.out).mono ?_
  rintro e w2 ⟨rfl, b2⟩
  replace HK := Lib.hid (RdKeyRowS.below HK.out b2)
  replace HB := Lib.hid (HB.out.trans (b2.mono HB.out.size))
  clear b2
  go_wp2_with fail
  refine (specKeyMatch_r _ ks d _ HK.out).mono ?_
  rintro e w3 ⟨rfl, b3⟩
  replace HK := Lib.hid (RdKeyRowS.below HK.out b3)
  replace HB := Lib.hid (HB.out.trans (b3.mono HB.out.size))
  clear b3
  generalize keyMatchF ks d = km at *
  go_wp2_with fail
  refine (implKeyOk_r _ ks _ HK.out).mono ?_
  rintro e w4 ⟨rfl, b4⟩
  replace HK := Lib.hid (RdKeyRowS.below HK.out b4)
  replace HB := Lib.hid (HB.out.trans (b4.mono HB.out.size))
  clear b4
  go_wp2_with fail
  refine (specKeyOk_r _ ks _ HK.out).mono ?_
  rintro e w5 ⟨rfl, b5⟩
  replace HK := Lib.hid (RdKeyRowS.below HK.out b5)
  replace HB := Lib.hid (HB.out.trans (b5.mono HB.out.size))
  clear b5
  rcases hok : keyOkF ks with _ | _
  all_goals
    have Hok := Lib.hid hok
    clear hok
    go_wp2
    go_loopw [8] (fun i wl => ∃ j : Nat, j ≤ n ∧ i = .int .i64 j ∧ RdKeyRowS wl (.slice A n c) ks ∧ Below w.heap.size w wl) (fun i _ => n - (intOf i).toNat)
    case atStart => exact ⟨0, by omega, rfl, HK.out, HB.out⟩
    case round =>
      clear HK HB
      obtain ⟨j, hj, rfl, hk, hb⟩ := hrel
      have HK := Lib.hid hk
      have HB := Lib.hid hb
      clear hk hb
      by_cases hlt : j < n
      · have hltI : (j : Int) < (n : Int) := by omega
        go_wp2_with fail
        refine (specKeyOk_r _ ks _ HK.out).mono ?_
        rintro e w6 ⟨rfl, b6⟩
        replace HK := Lib.hid (RdKeyRowS.below HK.out b6)
        replace HB := Lib.hid (HB.out.trans (b6.mono HB.out.size))
        clear b6
        rw [Hok.out]
        first
        | (have hno : keyOkF ks = true := Hok.out
           obtain ⟨ad, cs, hkj, rfl, hcl, hca, hE⟩ := RdS.at_ HK.out hlt
           have hE : cs = _ := hE
           subst hE
           have cc1 := hca.ci 0 rfl
           have cc2 := hca.ci 1 rfl
           have hon := Hon.out hno j ks[j] (List.getElem?_eq_getElem hkj)
           clear hca hcl
           generalize ks[j].xLow = lo at *
           generalize ks[j].xHigh = hi at *
           by_cases hin : lo ≤ d ∧ d ≤ hi
           · have hjk : (j : Int) = km := by
               rw [inB_iff.2 hin] at hon
               simpa using hon
             have e1 : ((j : Int) == km) = true := by simp [hjk]
             obtain ⟨l1, l2⟩ := hin
             have Hjk := Lib.hid hjk
             clear hon hjk
             go_wp2
             exact ⟨⟨j + 1, by omega, by go_num, HK.out, HB.out⟩, by simp [intOf]; omega⟩
           · have hjk : ¬ (j : Int) = km := by
               rw [show inB d lo hi = false by rw [inB_not]; omega] at hon
               simpa using hon
             have e1 : ((j : Int) == km) = false := by simp [hjk]
             have Hjk := Lib.hid hjk
             clear hon hjk
             by_cases l1 : lo ≤ d
             · have l2 : ¬ d ≤ hi := fun h => hin ⟨l1, h⟩
               clear hin
               go_wp2
               exact ⟨⟨j + 1, by omega, by go_num, HK.out, HB.out⟩, by simp [intOf]; omega⟩
             · clear hin
               go_wp2
               exact ⟨⟨j + 1, by omega, by go_num, HK.out, HB.out⟩, by simp [intOf]; omega⟩)
        | (go_wp2_with fail
           refine (drawKeyStream_any _ x1 _ (R1.out.below HB.out)).mono ?_
           rintro e w7 ⟨s, m, hs, hm, rfl, b7⟩
           replace hm : -9223372036854775808 ≤ m ∧ m ≤ 9223372036854775807 := hm
           replace HB := Lib.hid (HB.out.trans (b7.mono HB.out.size))
           have Hf := Lib.hid (stream_facts s m)
           clear b7
           go_wp2_with fail
           refine (implStream_any s m _ hm).mono ?_
           rintro e w8 ⟨rfl, rfl⟩
           go_wp2_with fail
           refine (implTurn_any s m _ hm.2).mono ?_
           rintro e w9 ⟨rfl, rfl⟩
           go_wp2_with fail
           refine (specStream_any s m _ hm).mono ?_
           rintro e w10 ⟨rfl, rfl⟩
           generalize streamF s m = st at *
           go_wp2_with fail
           refine (specTurn_any s m _ hm.2).mono ?_
           rintro e w11 ⟨rfl, rfl⟩
           generalize turnF s m = tu at *
           have hf := Hf.out
           by_cases hm1 : m < 1
           · obtain ⟨rfl, rfl⟩ := hf.1 hm1
             clear hf Hf
             go_wp2
             go_ret
             exact ⟨rfl, HB.out⟩
           · obtain ⟨⟨f1, f2⟩, ⟨f3, f4⟩, f5⟩ := hf.2 (by omega)
             clear hf Hf
             by_cases hm2 : m = 1
             · subst hm2
               clear f5
               go_wp2
               go_ret
               exact ⟨rfl, HB.out⟩
             · have f6 := f5 hm2
               have e2 : (m == 1) = false := by simp [hm2]
               clear f5
               go_wp2
               go_ret
               exact ⟨rfl, HB.out⟩)
      · have hltI : ¬ (j : Int) < (n : Int) := by omega
        go_wp2_with fail
        refine (drawKeyStream_any _ x1 _ (R1.out.below HB.out)).mono ?_
        rintro e w7 ⟨s, m, hs, hm, rfl, b7⟩
        replace hm : -9223372036854775808 ≤ m ∧ m ≤ 9223372036854775807 := hm
        replace HB := Lib.hid (HB.out.trans (b7.mono HB.out.size))
        have Hf := Lib.hid (stream_facts s m)
        clear b7
        go_wp2_with fail
        refine (implStream_any s m _ hm).mono ?_
        rintro e w8 ⟨rfl, rfl⟩
        go_wp2_with fail
        refine (implTurn_any s m _ hm.2).mono ?_
        rintro e w9 ⟨rfl, rfl⟩
        go_wp2_with fail
        refine (specStream_any s m _ hm).mono ?_
        rintro e w10 ⟨rfl, rfl⟩
        generalize streamF s m = st at *
        go_wp2_with fail
        refine (specTurn_any s m _ hm.2).mono ?_
        rintro e w11 ⟨rfl, rfl⟩
        generalize turnF s m = tu at *
        have hf := Hf.out
        by_cases hm1 : m < 1
        · obtain ⟨rfl, rfl⟩ := hf.1 hm1
          clear hf Hf
          go_wp2
          go_ret
          exact ⟨rfl, HB.out⟩
        · obtain ⟨⟨f1, f2⟩, ⟨f3, f4⟩, f5⟩ := hf.2 (by omega)
          clear hf Hf
          by_cases hm2 : m = 1
          · subst hm2
            clear f5
            go_wp2
            go_ret
            exact ⟨rfl, HB.out⟩
          · have f6 := f5 hm2
            have e2 : (m == 1) = false := by simp [hm2]
            clear f5
            go_wp2
            go_ret
            exact ⟨rfl, HB.out⟩
set_option maxRecDepth 100000 in
theorem fnKey_lifted (os : Os) (started : os.Started) (H : Type) (enc : TypeId × Value → H) :
    ReturnsInHanded {} Try.checked os 5 .any (Rows.fnKeySpec.pre6 enc Try.prog Try.f5 Rows.fnKeyRow.domain false) (Rows.fnKeySpec.post enc Try.prog Try.f5 false true false false) := by
  refine returnsInHanded_of_change (C := Try.checked) ownKnob_none started (by kernel_rfl) Try.func5
    (ChangeSpec.witness6 (enc := enc) (C := Try.checked) false ⟨#[], #[.slice none 0 0, .slice none 0 0], []⟩ 8 (by kernel_rfl) (by kernel_rfl) (by kernel_rfl) (by kernel_rfl)) ?_
  intro W base args ds gs before hval hW _ _
  have hW' := hW
  obtain ⟨p, q, hA, _⟩ := hW
  have hA' : DataW.TrodAll enc Try.prog W 0 (fun _ => true) true [34, 34] args.toList ds p := hA
  obtain ⟨v0, vs0, d0, ds0, p0, q0, hargs, rfl, rfl, h0, r0⟩ := trodAll_cons hA'
  obtain ⟨v1, vs1, d1, ds1, p1, q1, rfl, rfl, rfl, h1, r1⟩ := trodAll_cons r0
  obtain ⟨rfl, rfl, rfl⟩ := trodAll_nil r1
  obtain rfl : args = #[v0, v1] := by cases args; simp_all
  obtain ⟨x0, hx0⟩ := open_bytes (hval 0 34 v0 rfl rfl) h0
  obtain ⟨x1, hx1⟩ := open_bytes (hval 1 34 v1 rfl rfl) h1
  refine (lawFnKey v0 x0 v1 x1 W hx0 hx1).mono fun e W' ⟨he, hb⟩ => ?_
  subst he
  exact ⟨_, rfl, law_post (tb := 4) laidOut (by decide +kernel) rfl rfl Try.underlying4 (by rintro _ rfl; rfl) hW' hb⟩

theorem fnKey_proved : Rows.FnKeySaid :=
  OpenClaim.holds_of_wide 5 Try.f5 rfl rfl rfl rfl rfl rfl rfl ⟨rfl, rfl, rfl, rfl, rfl⟩ rfl rfl rfl rfl rfl (by kernel_rfl) Try.func5 fnKey_closed
    (of_decide_eq_true (by kernel_rfl)) (by unfold Func.isWrapper; first | (rw [if_pos (by decide +kernel)]; kernel_rfl) | (rw [if_neg (by decide +kernel)]; exact ⟨rfl, rfl⟩))
    (fun os started H enc _ => fnKey_lifted os started H enc)
#print axioms fnKey_proved
end Go.Proofs.Ytbceikhmoblacaa
