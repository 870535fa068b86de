/-
  Which way is taken: one plain function, and the contracts of both programs.
-/
import Derived.Test.YthdjjgbjemaabaaPickI
import Derived.Test.YthdjjgbjemaabaaAllI
import Derived.Test.YthdjjgbjemaabaaPth
import Derived.BigQuiet
namespace Go.Proofs.Ythdjjgbjemaabaa
open Go.ChangeShapes Go.WideShapes Go.ChangeAt Go.RowKit
set_option linter.unusedVariables false
set_option linter.unusedSimpArgs false

def okX (x : DPthWay) : Bool := okW x.xAddr x.xOn x.xErrors x.xSrtt x.xVar x.xRto
noncomputable def pickF (ws : List DPthWay) (p : Int) : Int := if decide (ws.length ≤ 2) && inB p 0 ((ws.length : Int) - 1) then (if allI (fun _ x => okX x) ws = true then takenR ws p else -1) else -1
theorem pickF_out {ws : List DPthWay} {p : Int} (h : 2 < ws.length ∨ inB p 0 ((ws.length : Int) - 1) = false) : pickF ws p = -1 := by
  unfold pickF
  rw [if_neg]
  rcases h with h | h
  · rw [decide_eq_false (by omega)]; simp
  · rw [h]; simp
theorem pickF_bad {ws : List DPthWay} {p : Int} {j : Nat} (hj : j < ws.length) (h : okX ws[j] = false) : pickF ws p = -1 := by
  unfold pickF
  split
  · rw [if_neg (by rw [allI_bad hj h]; simp)]
  · rfl
theorem pickF_good {ws : List DPthWay} {p : Int} (h1 : ws.length ≤ 2) (h2 : inB p 0 ((ws.length : Int) - 1) = true) (h : allI (fun _ x => okX x) ws = true) : pickF ws p = takenR ws p := by
  unfold pickF
  rw [if_pos (by rw [decide_eq_true h1, h2]; rfl), if_pos h]
theorem take_cases (ws : List DPthWay) (P : Nat) (h2 : ws.length ≤ 2) (hP : P < ws.length) :
    (ws[P].xOn = true → takenR ws P = P) ∧ (∀ j (hj : j < ws.length), ws[P].xOn = false → ws[j].xOn = true → takenR ws P = j) ∧ ((∀ j (hj : j < ws.length), ws[j].xOn = false) → takenR ws P = P) := by
  match ws, h2, hP with
  | [a], _, hP =>
    have hP0 : P = 0 := by simpa using hP
    subst hP0
    refine ⟨fun h => ?_, fun j hj h h' => ?_, fun h => ?_⟩
    · have h : a.xOn = true := h
      simp [takenR, takenL, onIdx, takeStep, List.range_succ, h]
    · have hj0 : j = 0 := by simpa using hj
      subst hj0
      rw [h] at h'; cases h'
    · have h : a.xOn = false := h 0 (by simp)
      simp [takenR, takenL, onIdx, takeStep, List.range_succ, h]
  | [a, b], _, hP =>
    have hP01 : P = 0 ∨ P = 1 := by simp at hP; omega
    rcases hP01 with rfl | rfl
    · refine ⟨fun h => ?_, fun j hj h h' => ?_, fun h => ?_⟩
      · have h : a.xOn = true := h
        rcases hb : b.xOn with _ | _
        all_goals simp [takenR, takenL, onIdx, takeStep, List.range_succ, h, hb]
      · have h : a.xOn = false := h
        have hj1 : j = 0 ∨ j = 1 := by simp at hj; omega
        rcases hj1 with rfl | rfl
        · have h' : a.xOn = true := h'
          rw [h] at h'; cases h'
        · have h' : b.xOn = true := h'
          simp [takenR, takenL, onIdx, takeStep, List.range_succ, h, h']
      · have ha : a.xOn = false := h 0 (by simp)
        have hb : b.xOn = false := h 1 (by simp)
        simp [takenR, takenL, onIdx, takeStep, List.range_succ, ha, hb]
    · refine ⟨fun h => ?_, fun j hj h h' => ?_, fun h => ?_⟩
      · have h : b.xOn = true := h
        rcases ha : a.xOn with _ | _
        all_goals simp [takenR, takenL, onIdx, takeStep, List.range_succ, h, ha]
      · have h : b.xOn = false := h
        have hj1 : j = 0 ∨ j = 1 := by simp at hj; omega
        rcases hj1 with rfl | rfl
        · have h' : a.xOn = true := h'
          simp [takenR, takenL, onIdx, takeStep, List.range_succ, h, h']
        · have h' : b.xOn = true := h'
          rw [h] at h'; cases h'
      · have ha : a.xOn = false := h 0 (by simp)
        have hb : b.xOn = false := h 1 (by simp)
        simp [takenR, takenL, onIdx, takeStep, List.range_succ, ha, hb]
theorem take_opt (ws : List DPthWay) (P : Nat) (x : DPthWay) (h2 : ws.length ≤ 2) (hx : ws[P]? = some x) :
    (x.xOn = true → takenR ws P = P) ∧ (∀ (j : Nat) (y : DPthWay), ws[j]? = some y → x.xOn = false → y.xOn = true → takenR ws P = j) ∧ ((∀ (j : Nat) (y : DPthWay), ws[j]? = some y → y.xOn = false) → takenR ws P = P) := by
  obtain ⟨hP, rfl⟩ := List.getElem?_eq_some_iff.1 hx
  obtain ⟨h3, h4, h5⟩ := take_cases ws P h2 hP
  exact ⟨h3, fun j y hy => by obtain ⟨hj, rfl⟩ := List.getElem?_eq_some_iff.1 hy; exact h4 j hj, fun h => h5 (fun j hj => h j _ (List.getElem?_eq_getElem hj))⟩
set_option maxRecDepth 100000 in
set_option maxHeartbeats 4000000 in
theorem specPthPick_n (v : Value) (ws : List DPthWay) (p : Int) (w : World) (hv : RdPthWayS w v ws) (hn : ws.length ≤ 1048576) : Calls Try.prog 24 #[v, .int .i64 p] w fun e w' => e = .returned (.int .i64 (pickF ws p)) ∧ Below w.heap.size w w' := by
  obtain ⟨A, c, rfl⟩ := RdS.slice hv
  have hcap := RdS.cap hv
  have HV := Lib.hid hv
  clear hv
  have Hout := Lib.hid (show (2 < ws.length ∨ inB p 0 ((ws.length : Int) - 1) = false) → pickF ws p = -1 from pickF_out)
  have Hbad := Lib.hid (show ∀ (j : Nat) (x : DPthWay), ws[j]? = some x → okX x = false → pickF ws p = -1 from fun j x hx h => by obtain ⟨hj, rfl⟩ := List.getElem?_eq_some_iff.1 hx; exact pickF_bad hj h)
  have Hgood := Lib.hid (show ws.length ≤ 2 → inB p 0 ((ws.length : Int) - 1) = true → allI (fun _ x => okX x) ws = true → pickF ws p = takenR ws p from pickF_good)
  have Htake := Lib.hid (take_opt ws p.toNat)
  generalize pickF ws p = r at *
  generalize hl : ws.length = n at *
  have Hl := Lib.hid hl
  clear hl
  rcases Nat.lt_or_ge 2 n with h2 | h2
  · have Hr := Lib.hid (Hout.out (.inl h2))
    go_enter Try.func24, Try.ntmps24
    go_wp2
    go_ret
    exact ⟨retI Hr.out.symm, Below.refl _ _⟩
  rcases hin : inB p 0 ((n : Int) - 1) with _ | _
  · have Hr := Lib.hid (Hout.out (.inr hin))
    go_enter Try.func24, Try.ntmps24
    go_wp2_with (go_at_call 108; refine (l1In_any _ _ _ _).mono ?_; rintro e w' ⟨rfl, rfl⟩)
    go_ret
    exact ⟨retI Hr.out.symm, Below.refl _ _⟩
  have hpb := inB_iff.1 hin
  obtain ⟨P, rfl⟩ := Int.eq_ofNat_of_zero_le hpb.1
  have hPn : P < n := by omega
  have Hin := Lib.hid hin
  clear Hout hpb
  go_enter Try.func24, Try.ntmps24
  go_wp2_with (go_at_call 108; refine (l1In_any _ _ _ _).mono ?_; rintro e w' ⟨rfl, rfl⟩)
  clear hin
  go_loopw [5] (fun i wl => ∃ j : Nat, j ≤ n ∧ i = .int .i64 j ∧ Below w.heap.size w wl ∧ UpTo (fun _ x => okX x) ws j) (fun i _ => n - (intOf i).toNat)
  case atStart => exact ⟨0, by omega, rfl, Below.refl _ _, UpTo.zero⟩
  case round =>
    obtain ⟨j, hj, rfl, hb, hu⟩ := hrel
    have HB := Lib.hid hb
    have HU := Lib.hid hu
    clear hb hu
    by_cases hlt : j < n
    · obtain ⟨ad, cs, hk, rfl, hcl, hca, hE⟩ := RdS.at_ (RdPthWayS.below HV.out HB.out) hlt
      have hE : cs = _ := hE
      subst hE
      have c0 := hca.c0
      have c1 := hca.ci 0 rfl
      have c2 := hca.ci 1 rfl
      have c3 := hca.ci 2 rfl
      have c4 := hca.ci 3 rfl
      have c5 := hca.ci 4 rfl
      have Hok := Lib.hid (show okX ws[j] = okW ws[j].xAddr ws[j].xOn ws[j].xErrors ws[j].xSrtt ws[j].xVar ws[j].xRto from rfl)
      clear hca hcl
      go_wp2_with fail
      refine (specPthOk_any _ _ _ _ _ _ _).mono ?_
      rintro e w2 ⟨rfl, b2⟩
      replace HB := Lib.hid (HB.out.trans (b2.mono HB.out.size))
      clear b2 c0 c1 c2 c3 c4 c5
      rcases ho : okW ws[j].xAddr ws[j].xOn ws[j].xErrors ws[j].xSrtt ws[j].xVar ws[j].xRto with _ | _
      · have Hr := Lib.hid (Hbad.out j ws[j] (List.getElem?_eq_getElem hk) (Hok.out.trans ho))
        clear ho
        go_wp2
        go_ret
        exact ⟨retI Hr.out.symm, HB.out⟩
      · have HU2 := Lib.hid (HU.out.succ hk (Hok.out.trans ho))
        clear ho
        go_wp2
        exact ⟨⟨j + 1, by omega, by go_num, HB.out, HU2.out⟩, by simp [intOf]; omega⟩
    · have : j = n := by omega
      subst this
      have Hr := Lib.hid (Hgood.out h2 Hin.out (HU.out.done (by rw [Hl.out]; exact Nat.le_refl _)))
      obtain ⟨ad, cs, hk, rfl, hcl, hca, hE⟩ := RdS.at_ (RdPthWayS.below HV.out HB.out) hPn
      have Ht0 := Htake.out ws[P] h2 (List.getElem?_eq_getElem hk)
      simp only [Int.toNat_natCast] at Ht0
      have Ht := Lib.hid Ht0
      clear Ht0
      have hE : cs = _ := hE
      subst hE
      have c1 := hca.ci 0 rfl
      clear hca hcl
      rcases ho : ws[P].xOn with _ | _
      rotate_left
      · have Ha := Lib.hid (Hr.out.trans (Ht.out.1 ho))
        rw [ho] at c1
        clear ho
        go_wp2
        go_ret
        exact ⟨retI Ha.out.symm, HB.out⟩
      rw [ho] at c1
      have Ho := Lib.hid ho
      clear ho
      go_wp2
      clear c1
      go_loopw [6] (fun i wl => ∃ m : Nat, m ≤ j ∧ i = .int .i64 m ∧ Below w.heap.size w wl ∧ UpTo (fun _ x => !x.xOn) ws m) (fun i _ => j - (intOf i).toNat)
      case atStart => exact ⟨0, by omega, rfl, HB.out, UpTo.zero⟩
      case round =>
        clear HB
        obtain ⟨m, hm, rfl, hb, hu⟩ := hrel
        have HB := Lib.hid hb
        have HU9 := Lib.hid hu
        clear hb hu
        by_cases hlt : m < j
        · obtain ⟨ad2, cs, hk2, hA, hcl, hca, hE⟩ := RdS.at_ (RdPthWayS.below HV.out HB.out) hlt
          injection hA with hA
          subst hA
          have hE : cs = _ := hE
          subst hE
          have c1 := hca.ci 0 rfl
          clear hca hcl
          rcases hm1 : ws[m].xOn with _ | _
          · rw [hm1] at c1
            have HU2 := Lib.hid (HU9.out.succ hk2 (by rw [hm1]; rfl))
            clear hm1
            go_wp2
            exact ⟨⟨m + 1, by omega, by go_num, HB.out, HU2.out⟩, by simp [intOf]; omega⟩
          · rw [hm1] at c1
            have Ha := Lib.hid (Hr.out.trans (Ht.out.2.1 m ws[m] (List.getElem?_eq_getElem hk2) Ho.out hm1))
            clear hm1
            go_wp2
            go_ret
            exact ⟨retI Ha.out.symm, HB.out⟩
        · have : m = j := by omega
          subst this
          have Ha := Lib.hid (Hr.out.trans (Ht.out.2.2 (fun i y hy => by obtain ⟨hi, rfl⟩ := List.getElem?_eq_some_iff.1 hy; have h := HU9.out i hi (by rw [Hl.out] at hi; exact hi); simpa using h)))
          go_wp2
          go_ret
          exact ⟨retI Ha.out.symm, HB.out⟩
set_option maxRecDepth 100000 in
set_option maxHeartbeats 4000000 in
theorem implPthPick_n (v : Value) (ws : List DPthWay) (p : Int) (w : World) (hv : RdPthWayS w v ws) (hn : ws.length ≤ 1048576) : Calls Try.prog 23 #[v, .int .i64 p] w fun e w' => e = .returned (.int .i64 (pickF ws p)) ∧ Below w.heap.size w w' := by
  obtain ⟨A, c, rfl⟩ := RdS.slice hv
  have hcap := RdS.cap hv
  have HV := Lib.hid hv
  clear hv
  have Hout := Lib.hid (show (2 < ws.length ∨ inB p 0 ((ws.length : Int) - 1) = false) → pickF ws p = -1 from pickF_out)
  have Hbad := Lib.hid (show ∀ (j : Nat) (x : DPthWay), ws[j]? = some x → okX x = false → pickF ws p = -1 from fun j x hx h => by obtain ⟨hj, rfl⟩ := List.getElem?_eq_some_iff.1 hx; exact pickF_bad hj h)
  have Hgood := Lib.hid (show ws.length ≤ 2 → inB p 0 ((ws.length : Int) - 1) = true → allI (fun _ x => okX x) ws = true → pickF ws p = takenR ws p from pickF_good)
  have HT := Lib.hid (fun w' (h : RdPthWayS w' (.slice A ws.length c) ws) => pthTaken_n A c ws p w' h)
  generalize pickF ws p = r at *
  generalize hl : ws.length = n at *
  have Hl := Lib.hid hl
  clear hl
  rcases Nat.lt_or_ge 2 n with h2 | h2
  · have Hr := Lib.hid (Hout.out (.inl h2))
    go_enter Try.func23, Try.ntmps23
    go_wp2
    go_ret
    exact ⟨retI Hr.out.symm, Below.refl _ _⟩
  rcases hin : inB p 0 ((n : Int) - 1) with _ | _
  · have Hr := Lib.hid (Hout.out (.inr hin))
    go_enter Try.func23, Try.ntmps23
    go_wp2_with (go_at_call 104; refine (frmIn_any _ _ _ _).mono ?_; rintro e w' ⟨rfl, rfl⟩)
    go_ret
    exact ⟨retI Hr.out.symm, Below.refl _ _⟩
  have Hin := Lib.hid hin
  clear Hout
  go_enter Try.func23, Try.ntmps23
  go_wp2_with (go_at_call 104; refine (frmIn_any _ _ _ _).mono ?_; rintro e w' ⟨rfl, rfl⟩)
  clear hin
  go_loopw [20] (fun i wl => ∃ j : Nat, j ≤ n ∧ i = .int .i64 j ∧ Below w.heap.size w wl ∧ UpTo (fun _ x => okX x) ws j) (fun i _ => n - (intOf i).toNat)
  case atStart => exact ⟨0, by omega, rfl, Below.refl _ _, UpTo.zero⟩
  case round =>
    obtain ⟨j, hj, rfl, hb, hu⟩ := hrel
    have HB := Lib.hid hb
    have HU := Lib.hid hu
    clear hb hu
    by_cases hlt : j < n
    · obtain ⟨ad, cs, hk, rfl, hcl, hca, hE⟩ := RdS.at_ (RdPthWayS.below HV.out HB.out) hlt
      have hE : cs = _ := hE
      subst hE
      have c0 := hca.c0
      have c1 := hca.ci 0 rfl
      have c2 := hca.ci 1 rfl
      have c3 := hca.ci 2 rfl
      have c4 := hca.ci 3 rfl
      have c5 := hca.ci 4 rfl
      have Hok := Lib.hid (show okX ws[j] = okW ws[j].xAddr ws[j].xOn ws[j].xErrors ws[j].xSrtt ws[j].xVar ws[j].xRto from rfl)
      clear hca hcl
      go_wp2_with fail
      refine (implPthOk_any _ _ _ _ _ _ _).mono ?_
      rintro e w2 ⟨rfl, b2⟩
      have b0 := belowOn HB.out HB.out.size (((Below.refl wr.heap.size wr).alloc (Nat.le_refl _) (.cells #[.int .i64 ws[j].xAddr, .bool ws[j].xOn, .int .i64 ws[j].xErrors, .int .i64 ws[j].xSrtt, .int .i64 ws[j].xVar, .int .i64 ws[j].xRto] 24)))
      replace HB := Lib.hid (belowOn b0 b0.size b2)
      clear b0 b2 c0 c1 c2 c3 c4 c5
      rcases ho : okW ws[j].xAddr ws[j].xOn ws[j].xErrors ws[j].xSrtt ws[j].xVar ws[j].xRto with _ | _
      · have Hr := Lib.hid (Hbad.out j ws[j] (List.getElem?_eq_getElem hk) (Hok.out.trans ho))
        clear ho
        go_wp2
        go_ret
        exact ⟨retI Hr.out.symm, HB.out⟩
      · have HU2 := Lib.hid (HU.out.succ hk (Hok.out.trans ho))
        clear ho
        go_wp2
        exact ⟨⟨j + 1, by omega, by go_num, HB.out, HU2.out⟩, by simp [intOf]; omega⟩
    · have : j = n := by omega
      subst this
      have Hr := Lib.hid (Hgood.out h2 Hin.out (HU.out.done (by rw [Hl.out]; exact Nat.le_refl _)))
      go_wp2_with fail
      refine (HT.out _ (RdPthWayS.below HV.out HB.out)).mono ?_
      rintro e w2 ⟨rfl, b2⟩
      replace HB := Lib.hid (HB.out.trans (b2.mono HB.out.size))
      clear b2
      rw [← Hr.out]
      go_wp2
      go_ret
      exact ⟨rfl, HB.out⟩
end Go.Proofs.Ythdjjgbjemaabaa
