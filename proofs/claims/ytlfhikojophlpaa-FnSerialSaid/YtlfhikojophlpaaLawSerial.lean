/-
  Numbers that wrap go round and keep their order near each other: the law of P18 answers true at every code (Rows.FnSerialSaid). No condition.
-/
import Derived.Test.YtlfhikojophlpaaDrawSer
import Derived.Test.YtlfhikojophlpaaRow
import Derived.Deep.DeepCutAuto
namespace Go.Proofs.Ytlfhikojophlpaa
open Go.ChangeShapes Go.WideShapes Go.ChangeAt Go.RowKit Go.Maps
set_option linter.unusedVariables false

theorem lessF_asym {x y d : Int} (h : lessF x y d = true) : lessF y x d = false := by
  unfold lessF lessB at *
  simp only [Bool.and_eq_true, decide_eq_true_eq] at h
  unfold gapF at *
  by_cases hx : isB x d = true <;> by_cases hy : isB y d = true <;> simp [hx, hy] at h ⊢
  have h1 := isB_iff.1 hx
  have h2 := isB_iff.1 hy
  have ht := topOf_cases d
  rcases ht with ⟨_, ht⟩ | ⟨_, ht⟩ | ⟨_, _, ht⟩ <;> simp only [ht] at h h1 h2 ⊢ <;> omega
def topD (d : Int) : Int := if d = 32 then 4294967295 else 65535
def sz1 (b : Int) : Int := if b = 16 then 65536 else 0
/-- Going on by n and looking back: the remainder of n, from 0 on. -/
def rem0 (n t : Int) : Int := if n.tmod t < 0 then n.tmod t + t else n.tmod t
theorem rem0_eq (n t : Int) (ht : 0 < t) : rem0 n t = n % t := by
  unfold rem0
  have h2 := Int.tmod_lt_of_pos n ht
  have h4 : n.tmod t = n - t * (n.tdiv t) := by have := Int.tmod_def n t; omega
  have h5 : n % t = (n.tmod t) % t := by rw [h4, Int.sub_eq_add_neg, ← Int.mul_neg, Int.add_mul_emod_self_left]
  have h3 : -t < n.tmod t := by
    have := Int.neg_tmod (a := n) (b := t)
    have := Int.tmod_lt_of_pos (-n) ht
    omega
  rw [h5]
  split
  · rw [← Int.add_emod_right, Int.emod_eq_of_lt (by omega) (by omega)]
  · rw [Int.emod_eq_of_lt (by omega) (by omega)]
theorem back_gap {a n d : Int} (h : isB a d = true) : gapF a (addF a n d) d = n % topOf d := by
  have h1 := isB_iff.1 h
  have hp : 0 < topOf d := by omega
  have e : addF a n d = (a + n) % topOf d := by simp [addF, h]
  have hb : isB ((a + n) % topOf d) d = true := isB_iff.2 ⟨Int.emod_nonneg _ (by omega), Int.emod_lt_of_pos _ hp⟩
  rw [e, gapF_yes h hb, Int.emod_sub_emod]
  congr 1; omega
theorem back_add {a n d k : Int} (h : isB a d = true) (hk : k = n % topOf d) : addF (addF a n d) (-k) d = a := by
  have h1 := isB_iff.1 h
  have hp : 0 < topOf d := by omega
  have e : addF a n d = (a + n) % topOf d := by simp [addF, h]
  have hb : isB ((a + n) % topOf d) d = true := isB_iff.2 ⟨Int.emod_nonneg _ (by omega), Int.emod_lt_of_pos _ hp⟩
  rw [e]
  unfold addF
  rw [if_pos hb, hk, Int.emod_add_emod, ← Int.sub_eq_add_neg, Int.sub_emod_emod]
  rw [show a + n - n = a by omega, Int.emod_eq_of_lt h1.1 h1.2]
def badB (x y d : Int) : Bool := !(isB x d && isB y d)
theorem badB_x {x y d : Int} (h : isB x d = false) : badB x y d = true := by simp [badB, h]
theorem badB_y {x y d : Int} (h : isB y d = false) : badB x y d = true := by simp [badB, h]
theorem badB_no {x y d : Int} (h : isB x d = true) (h2 : isB y d = true) : badB x y d = false := by simp [badB, h, h2]
theorem gap_step {x y d : Int} (hx : isB x d = true) (hy : isB y d = true) : gapF (addF x 1 d) (addF y 1 d) d = gapF x y d := by
  have h1 := isB_iff.1 hx
  have hp : 0 < topOf d := by omega
  have e : ∀ z, isB z d = true → addF z 1 d = (z + 1) % topOf d ∧ isB ((z + 1) % topOf d) d = true := fun z hz =>
    ⟨by simp [addF, hz], isB_iff.2 ⟨Int.emod_nonneg _ (by omega), Int.emod_lt_of_pos _ hp⟩⟩
  obtain ⟨e1, b1⟩ := e x hx
  obtain ⟨e2, b2⟩ := e y hy
  rw [e1, e2, gapF_yes b1 b2, gapF_yes hx hy, Int.emod_sub_emod, Int.sub_emod_emod]
  congr 1; omega
theorem less_step {x y d : Int} (hx : isB x d = true) (hy : isB y d = true) : lessF (addF x 1 d) (addF y 1 d) d = lessF x y d := by
  rw [lessF, gap_step hx hy]; rfl
theorem far_pos {x y d : Int} (hx : isB x d = true) (hy : isB y d = true) : decide (0 < gapF x y d) = (x != y) := by
  have h1 := isB_iff.1 hx
  have h2 := isB_iff.1 hy
  rw [gapF_yes hx hy]
  have ht := topOf_cases d
  rw [Bool.eq_iff_iff]
  simp only [decide_eq_true_eq, bne_iff_ne]
  rcases ht with ⟨_, ht⟩ | ⟨_, ht⟩ | ⟨_, _, ht⟩ <;> simp only [ht] at h1 h2 ⊢ <;> omega
set_option maxRecDepth 100000 in
set_option maxHeartbeats 4000000 in
theorem lawSerial (v u : Value) (xs ys : List UInt8) (w : World) (hv : RdB w v xs) (hu : RdB w u ys) (hn : xs.length ≤ 9223372036854775807) (hm : ys.length ≤ 9223372036854775807) :
    Calls Try.prog 3 #[v, u] w fun e w' => e = .returned (.bool true) ∧ Below w.heap.size w w' := by
  obtain ⟨A, c, rfl⟩ := id hv.slice
  obtain ⟨A', c', rfl⟩ := id hu.slice
  have HV := Lib.hid hv
  have HU := Lib.hid hu
  clear hv hu
  generalize hl : xs.length = n1 at *
  generalize hl' : ys.length = n2 at *
  have Hl := Lib.hid hl
  have Hl' := Lib.hid hl'
  clear hl hl'
  by_cases hbig : 1048576 < n1
  · go_enter Try.func3, Try.ntmps3
    go_wp2
    go_ret
    exact ⟨rfl, Below.refl _ _⟩
  by_cases hbig2 : 1048576 < n2
  · go_enter Try.func3, Try.ntmps3
    go_wp2
    go_ret
    exact ⟨rfl, Below.refl _ _⟩
  go_enter Try.func3, Try.ntmps3
  go_wp2_with fail
  refine (drawSerAdd_any _ xs _ HV.out).mono ?_
  rintro e w1 ⟨a, n, bits, hi, rfl, hb1⟩
  have HU := Lib.hid (HU.out.below hb1)
  have B1 := Lib.hid hb1
  obtain ⟨ha, hn', hbt⟩ := hi
  unfold isInt at ha hn' hbt
  clear hb1 HV
  go_wp2_with fail
  refine (implAdd_any _ _ _ _).mono ?_
  rintro e w' ⟨rfl, rfl⟩
  generalize hb : addF a n bits = b
  have Hb := Lib.hid hb
  clear hb
  go_wp2_with fail
  refine (specAdd_any _ _ _ _).mono ?_
  rintro e w' ⟨rfl, rfl⟩
  rw [Hb.out]
  have e1 : (b != b) = false := by simp
  go_wp2_with fail
  refine (drawSerLess_any _ ys _ HU.out).mono ?_
  rintro e w2 ⟨x, y, d, hi, rfl, hb2⟩
  have B2 := Lib.hid (B1.out.trans (hb2.mono B1.out.size))
  obtain ⟨hx, hy, hd⟩ := hi
  unfold isInt at hx hy hd
  clear hb2 B1 HU
  go_wp2_with fail
  refine (implLess_any _ _ _ _).mono ?_
  rintro e w' ⟨rfl, rfl⟩
  generalize hle : lessF x y d = le
  have Hle := Lib.hid hle
  clear hle
  go_upto_region 9 with fail
  go_cut [65] (fun s65 wx => s65 = .bool false ∧ wx = w2)
  case first => as_aux_lemma =>
    have e2 : (le != le) = false := by simp
    rcases hle : le with _ | _
    · subst hle
      go_wp2_with fail
      refine (specLess_any _ _ _ _).mono ?_
      rintro e w' ⟨rfl, rfl⟩
      rw [Hle.out]
      go_wp2_with fail
      go_meet
      exact ⟨rfl, rfl⟩
    · subst hle
      have Hno := Lib.hid (lessF_asym Hle.out)
      go_wp2_with fail
      refine (specLess_any _ _ _ _).mono ?_
      rintro e w' ⟨rfl, rfl⟩
      rw [Hle.out]
      go_wp2_with fail
      refine (implLess_any _ _ _ _).mono ?_
      rintro e w' ⟨rfl, rfl⟩
      rw [Hno.out]
      go_wp2_with fail
      go_meet
      exact ⟨rfl, rfl⟩
  case rest => as_aux_lemma =>
  obtain ⟨rfl, rfl⟩ := hcut
  go_upto_if 67 with fail
  go_cut [13] (fun s13 wx => s13 = .int .i64 (sz1 bits) ∧ wx = wc)
  case first => as_aux_lemma =>
    by_cases h16 : bits = 16
    · subst h16
      go_wp2_with fail
      go_meet
      exact ⟨rfl, rfl⟩
    · have h16' : (bits == 16) = false := by simp [h16]
      have Hs := Lib.hid (show sz1 bits = 0 by simp [sz1, h16])
      go_wp2_with fail
      go_meet
      exact ⟨by rw [Hs.out], rfl⟩
  case rest => as_aux_lemma =>
  obtain ⟨rfl, rfl⟩ := hcut
  go_upto_if 69 with fail
  go_cut [13] (fun s13 wx => s13 = .int .i64 (topOf bits) ∧ wx = wc)
  case first => as_aux_lemma =>
    by_cases h32 : bits = 32
    · subst h32
      go_wp2_with fail
      go_meet
      exact ⟨rfl, rfl⟩
    · have h32' : (bits == 32) = false := by simp [h32]
      have Hs := Lib.hid (show sz1 bits = topOf bits by simp [sz1, topOf, h32])
      go_wp2_with fail
      go_meet
      exact ⟨by rw [Hs.out], rfl⟩
  case rest => as_aux_lemma =>
  obtain ⟨rfl, rfl⟩ := hcut
  have ht := topOf_cases bits
  have t0 : 0 ≤ topOf bits := by omega
  have t1 : topOf bits ≤ 4294967296 := by omega
  clear ht
  generalize hT : topOf bits = T at *
  have HT := Lib.hid hT
  clear hT
  go_upto_region 16 with fail
  go_cut [80] (fun s80 wx => s80 = .bool (isB a bits) ∧ wx = wc)
  case first => as_aux_lemma =>
    by_cases hT0 : 0 < T
    · by_cases ha0 : 0 ≤ a
      · by_cases haT : a < T
        · have Hi := Lib.hid (show isB a bits = true by rw [isB_iff, HT.out]; exact ⟨ha0, haT⟩)
          go_wp2_with fail
          go_meet
          exact ⟨by rw [Hi.out]; first | done | simp [haT], rfl⟩
        · have Hi := Lib.hid (show isB a bits = false by rw [isB_not, HT.out]; omega)
          go_wp2_with fail
          go_meet
          exact ⟨by rw [Hi.out]; first | done | simp [haT], rfl⟩
      · have Hi := Lib.hid (show isB a bits = false by rw [isB_not]; omega)
        go_wp2_with fail
        go_meet
        exact ⟨by rw [Hi.out], rfl⟩
    · have Hi := Lib.hid (show isB a bits = false by rw [isB_not, HT.out]; omega)
      go_wp2_with fail
      go_meet
      exact ⟨by rw [Hi.out], rfl⟩
  case rest => as_aux_lemma =>
  obtain ⟨rfl, rfl⟩ := hcut
  go_upto_if 80 with fail
  go_cut [] (fun wx => wx = wc)
  case first => as_aux_lemma =>
    rcases hB : isB a bits with _ | _
    · go_wp2_with fail
      go_meet
      exact rfl
    · have h1 := isB_iff.1 hB
      rw [HT.out] at h1
      have Hg := Lib.hid (show gapF a b bits = rem0 n T by rw [← Hb.out, back_gap hB, rem0_eq _ _ (by omega), HT.out])
      have Ha := Lib.hid (show addF b (-rem0 n T) bits = a by rw [← Hb.out]; exact back_add hB (by rw [rem0_eq _ _ (by omega), HT.out]))
      have r2 := Int.tmod_lt_of_pos n (show 0 < T by omega)
      have r3 : -T < n.tmod T := by
        have := Int.neg_tmod (a := n) (b := T)
        have := Int.tmod_lt_of_pos (-n) (show 0 < T by omega)
        omega
      have hTz : (T == 0) = false := by rw [beq_eq_false_iff_ne]; omega
      by_cases hneg : n.tmod T < 0
      · have Hr := Lib.hid (show rem0 n T = n.tmod T + T by simp [rem0, hneg])
        go_wp2_with fail
        refine (implGap_any _ _ _ _).mono ?_
        rintro e w' ⟨rfl, rfl⟩
        rw [Hg.out, Hr.out]
        have e3 : (n.tmod T + T != n.tmod T + T) = false := by simp
        go_wp2_with fail
        refine (implAdd_any _ _ _ _).mono ?_
        rintro e w' ⟨rfl, rfl⟩
        have Ha2 := Ha.out
        rw [Hr.out] at Ha2
        rw [Ha2]
        clear Ha2
        have e4 : (a != a) = false := by simp
        go_wp2_with fail
        go_meet
        exact rfl
      · have Hr := Lib.hid (show rem0 n T = n.tmod T by simp [rem0, hneg])
        go_wp2_with fail
        refine (implGap_any _ _ _ _).mono ?_
        rintro e w' ⟨rfl, rfl⟩
        rw [Hg.out, Hr.out]
        have e3 : (n.tmod T != n.tmod T) = false := by simp
        go_wp2_with fail
        refine (implAdd_any _ _ _ _).mono ?_
        rintro e w' ⟨rfl, rfl⟩
        have Ha2 := Ha.out
        rw [Hr.out] at Ha2
        rw [Ha2]
        clear Ha2
        have e4 : (a != a) = false := by simp
        go_wp2_with fail
        go_meet
        exact rfl
  case rest => as_aux_lemma =>
  obtain rfl := hcut
  go_wp2_with fail
  refine (implGap_any _ _ _ _).mono ?_
  rintro e w' ⟨rfl, rfl⟩
  have f0 := gapF_lo x y d
  have f1 := gapF_hi x y d
  generalize hfar : gapF x y d = far at *
  have Hfar := Lib.hid hfar
  clear hfar
  go_wp2_with fail
  refine (specGap_any _ _ _ _).mono ?_
  rintro e w' ⟨rfl, rfl⟩
  rw [Hfar.out]
  have e5 : (far != far) = false := by simp
  go_upto_if 115 with fail
  go_cut [16] (fun s16 wx => s16 = .int .i64 (topD d) ∧ wx = wc)
  case first => as_aux_lemma =>
    by_cases h32 : d = 32
    · subst h32
      go_wp2_with fail
      go_meet
      exact ⟨rfl, rfl⟩
    · have h32' : (d == 32) = false := by simp [h32]
      have Hs := Lib.hid (show topD d = 65535 by simp [topD, h32])
      go_wp2_with fail
      go_meet
      exact ⟨by rw [Hs.out], rfl⟩
  case rest => as_aux_lemma =>
  obtain ⟨rfl, rfl⟩ := hcut
  go_upto_region 28 with fail
  go_cut [139] (fun s139 wx => s139 = .bool (badB x y d) ∧ wx = wc)
  case first => as_aux_lemma =>
    have hdd : (d ≠ 16 ∧ d ≠ 32) ∨ (((d != 16) = false ∨ ((d != 16) = true ∧ (d != 32) = false)) ∧ topD d = topOf d - 1) := by
      rcases topOf_cases d with ⟨rfl, ht⟩ | ⟨rfl, ht⟩ | ⟨hd1, hd2, ht⟩
      · right; exact ⟨.inl rfl, rfl⟩
      · right; exact ⟨.inr ⟨rfl, rfl⟩, rfl⟩
      · left; exact ⟨hd1, hd2⟩
    rcases hdd with ⟨hd1, hd2⟩ | ⟨hdd, htd⟩
    · have Hbad := Lib.hid (badB_x (y := y) (show isB x d = false by rw [isB_not, topOf_other hd1 hd2]; omega))
      have d1 : (d != 16) = true := by simp [hd1]
      have d2 : (d != 32) = true := by simp [hd2]
      clear hd1 hd2
      go_wp2_with fail
      go_meet
      exact ⟨by rw [Hbad.out], rfl⟩
    have Htd := Lib.hid htd
    clear htd
    generalize hTD : topD d = TD at *
    have HTD := Lib.hid hTD
    clear hTD
    by_cases x0 : x < 0
    · have Hbad := Lib.hid (badB_x (y := y) (d := d) (isB_not.2 (.inl x0)))
      rcases hdd with d1 | ⟨d1, d2⟩
      all_goals
        go_wp2_with fail
        go_meet
        exact ⟨by rw [Hbad.out], rfl⟩
    by_cases y0 : y < 0
    · have Hbad := Lib.hid (badB_y (x := x) (d := d) (isB_not.2 (.inl y0)))
      rcases hdd with d1 | ⟨d1, d2⟩
      all_goals
        go_wp2_with fail
        go_meet
        exact ⟨by rw [Hbad.out], rfl⟩
    by_cases x1 : TD < x
    · have Hbad := Lib.hid (badB_x (y := y) (d := d) ((isB_not (n := x) (bits := d)).2 (.inr (by have h1 := Htd.out; have h2 := HTD.out; omega))))
      rcases hdd with d1 | ⟨d1, d2⟩
      all_goals
        go_wp2_with fail
        go_meet
        exact ⟨by rw [Hbad.out], rfl⟩
    by_cases y1 : TD < y
    · have Hbad := Lib.hid (badB_y (x := x) (d := d) ((isB_not (n := y) (bits := d)).2 (.inr (by have h1 := Htd.out; have h2 := HTD.out; omega))))
      rcases hdd with d1 | ⟨d1, d2⟩
      all_goals
        go_wp2_with fail
        go_meet
        exact ⟨by rw [Hbad.out]; first | done | simp [y1], rfl⟩
    have Hbad := Lib.hid (badB_no (d := d) (isB_iff.2 (show 0 ≤ x ∧ x < topOf d by have h1 := Htd.out; have h2 := HTD.out; omega)) (isB_iff.2 (show 0 ≤ y ∧ y < topOf d by have h1 := Htd.out; have h2 := HTD.out; omega)))
    rcases hdd with d1 | ⟨d1, d2⟩
    all_goals
      go_wp2_with fail
      go_meet
      exact ⟨by rw [Hbad.out]; first | done | simp [y1], rfl⟩
  case rest => as_aux_lemma =>
  obtain ⟨rfl, rfl⟩ := hcut
  rcases hbx : isB x d with _ | _
  · have Hbad := Lib.hid (badB_x (y := y) hbx)
    have h1 := Hfar.out
    have h2 := Hle.out
    rw [gapF_no1 hbx] at h1
    rw [lessF_no1 hbx] at h2
    subst h1 h2
    rw [Hbad.out]
    go_wp2
    go_ret
    exact ⟨rfl, B2.out⟩
  rcases hby : isB y d with _ | _
  · have Hbad := Lib.hid (badB_y (x := x) hby)
    have h1 := Hfar.out
    have h2 := Hle.out
    rw [gapF_no2 hby] at h1
    rw [lessF_no2 hby] at h2
    subst h1 h2
    rw [Hbad.out]
    go_wp2
    go_ret
    exact ⟨rfl, B2.out⟩
  rw [badB_no hbx hby]
  have Hstep := Lib.hid (less_step hbx hby)
  have Hpos := Lib.hid (far_pos hbx hby)
  go_wp2_with fail
  refine (implAdd_any _ _ _ _).mono ?_
  rintro e w' ⟨rfl, rfl⟩
  go_wp2_with fail
  refine (implAdd_any _ _ _ _).mono ?_
  rintro e w' ⟨rfl, rfl⟩
  go_wp2_with fail
  refine (implLess_any _ _ _ _).mono ?_
  rintro e w' ⟨rfl, rfl⟩
  rw [Hstep.out, Hle.out]
  have e6 : (le == le) = true := by simp
  go_wp2_with fail
  go_ret
  refine ⟨retB ?_, B2.out⟩
  have hp := Hpos.out
  rw [Hfar.out] at hp
  rw [hp]
  simp

set_option maxRecDepth 100000 in
theorem serial_lifted (os : Os) (started : os.Started) (H : Type) (enc : TypeId × Value → H) :
    ReturnsInHanded {} Try.checked os 3 .any (Rows.fnSerialSpec.pre6 enc Try.prog Try.f3 Rows.fnSerialRow.domain false) (Rows.fnSerialSpec.post enc Try.prog Try.f3 false true false false) := by
  refine returnsInHanded_of_change (C := Try.checked) ownKnob_none started (by kernel_rfl) Try.func3
    (ChangeSpec.witness6 (enc := enc) (C := Try.checked) false ⟨#[], #[.slice none 0 0, .slice none 0 0], []⟩ 8 (by kernel_rfl) (by kernel_rfl) (by kernel_rfl) (by kernel_rfl)) ?_
  intro W base args ds gs before hval hW _ _
  have hW' := hW
  obtain ⟨p, q, hA, _⟩ := hW
  have hA' : DataW.TrodAll enc Try.prog W 0 (fun _ => true) true [22, 22] args.toList ds p := hA
  obtain ⟨v0, vs0, d0, ds0, p0, q0, hargs, rfl, rfl, h0, r0⟩ := trodAll_cons hA'
  obtain ⟨v1, vs1, d1, ds1, p1, q1, rfl, rfl, rfl, h1, r1⟩ := trodAll_cons r0
  obtain ⟨rfl, rfl, rfl⟩ := trodAll_nil r1
  obtain rfl : args = #[v0, v1] := by cases args; simp_all
  obtain ⟨x0, hx0⟩ := open_bytes (hval 0 22 v0 rfl rfl) h0
  obtain ⟨x1, hx1⟩ := open_bytes (hval 1 22 v1 rfl rfl) h1
  refine (lawSerial v0 v1 x0 x1 W hx0 hx1 (by obtain ⟨A, c, rfl⟩ := hx0.slice; have := hx0.cap; omega) (by obtain ⟨A, c, rfl⟩ := hx1.slice; have := hx1.cap; omega)).mono fun e W' ⟨he, hb⟩ => ?_
  subst he
  exact ⟨_, rfl, law_post (tb := 4) laidOut (by decide +kernel) rfl rfl Try.underlying4 (by rintro _ rfl; rfl) hW' hb⟩

theorem serial_proved : Rows.FnSerialSaid :=
  OpenClaim.holds_of_wide 3 Try.f3 rfl rfl rfl rfl rfl rfl rfl ⟨rfl, rfl, rfl, rfl, rfl⟩ rfl rfl rfl rfl rfl (by kernel_rfl) Try.func3 (by kernel_rfl)
    (of_decide_eq_true (by kernel_rfl)) (by unfold Func.isWrapper; first | (rw [if_pos (by decide +kernel)]; kernel_rfl) | (rw [if_neg (by decide +kernel)]; exact ⟨rfl, rfl⟩))
    (fun os started H enc _ => serial_lifted os started H enc)
#print axioms serial_proved
end Go.Proofs.Ytlfhikojophlpaa
