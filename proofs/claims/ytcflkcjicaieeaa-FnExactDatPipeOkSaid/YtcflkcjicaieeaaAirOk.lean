/-
  Is what is under way over a pipe ok? Gaps, and what lies in the air: the contracts of both programs' functions. (Written by wip/tools/genpipeok.py.)
-/
import Derived.Test.YtcflkcjicaieeaaOutOk
import Derived.Test.YtcflkcjicaieeaaTyDatAir
namespace Go.Proofs.Ytcflkcjicaieeaa
open Go.ChangeShapes Go.WideShapes Go.ChangeAt Go.RowKit
set_option linter.unusedVariables false
set_option linter.unusedSimpArgs false

def gapLast (gs : List DFrmGap) (j : Nat) : Int := if j = 0 then 0 else ((gs[j - 1]?).map (·.xTo)).getD 0
theorem gapLast_succ {gs : List DFrmGap} {j : Nat} {g : DFrmGap} (h : gs[j]? = some g) : gapLast gs (j + 1) = g.xTo := by simp [gapLast, h]
def gapOk (gs : List DFrmGap) (j : Nat) (g : DFrmGap) : Bool := decide (gapLast gs j + 2 ≤ g.xFrom) && (decide (g.xFrom ≤ g.xTo) && decide (g.xTo ≤ 65535))
noncomputable def gapsOk (gs : List DFrmGap) : Bool := decide (gs.length ≤ 4) && allI (gapOk gs) gs
def noPiece (p : DDatPiece) : Bool := (p.xTsn == 0) && ((p.xStream == 0) && ((p.xSsn == 0) && (!p.xFirst && (!p.xLast && (!p.xLoose && ((p.xBody.length : Int) == 0))))))
noncomputable def airOk (a : DDatAir) : Bool := if a.xAnswer = true then (inB a.xCum 0 4294967295 && (gapsOk a.xGaps && noPiece a.xPiece)) else (pieceOk a.xPiece 8 && ((a.xCum == 0) && ((a.xGaps.length : Int) == 0)))
theorem airOk_eq (a : DDatAir) : airOk a = (match a.xAnswer with | true => (inB a.xCum 0 4294967295 && (gapsOk a.xGaps && noPiece a.xPiece)) | false => (pieceOk a.xPiece 8 && ((a.xCum == 0) && ((a.xGaps.length : Int) == 0)))) := by
  unfold airOk; cases a.xAnswer <;> rfl

set_option maxHeartbeats 800000 in
theorem l4Gaps_r (v : Value) (gs : List DFrmGap) (w : World) (hv : RdFrmGapS w v gs) : Calls Try.prog 225 #[v] w fun e w' => e = .returned (.bool (gapsOk gs)) ∧ Below w.heap.size w w' := by
  obtain ⟨A, c, rfl⟩ := RdS.slice hv
  have hc := RdS.cap hv
  have Hv := Lib.hid hv
  clear hv
  have Hgo := Lib.hid (show ∀ j g, gapOk gs j g = (decide (gapLast gs j + 2 ≤ g.xFrom) && (decide (g.xFrom ≤ g.xTo) && decide (g.xTo ≤ 65535))) from fun _ _ => rfl)
  have Hgs := Lib.hid (show ∀ (j : Nat) (g : DFrmGap), gs[j]? = some g → gapLast gs (j + 1) = g.xTo from fun j g hp => gapLast_succ hp)
  have Hg0 := Lib.hid (show gapLast gs 0 = 0 from rfl)
  have Hall := Lib.hid (show gapsOk gs = (decide (gs.length ≤ 4) && allI (gapOk gs) gs) from rfl)
  generalize gapsOk gs = all at *
  generalize hl : gs.length = n at *
  have Hl := Lib.hid hl
  clear hl
  generalize gapLast gs = gl at *
  generalize gapOk gs = go at *
  rcases Nat.lt_or_ge 4 n with hf | hf
  · go_enter Try.func225, Try.ntmps225
    go_wp2
    go_ret
    exact ⟨ret_bool (by rw [Hall.out, decide_eq_false (Nat.not_le.2 hf)]; rfl), Below.refl _ _⟩
  go_enter Try.func225, Try.ntmps225
  go_wp2
  go_loopw [3, 4] (fun q i w1 => ∃ (j : Nat) (a : Int), j ≤ n ∧ i = .int .i64 j ∧ q = .int .i64 a ∧ 0 ≤ a ∧ a ≤ 65535 ∧ gl j = a ∧ Below w.heap.size w w1 ∧ UpTo go gs j) (fun _ i _ => n - (intOf i).toNat)
  case atStart => exact ⟨0, 0, by omega, rfl, rfl, by omega, by omega, Hg0.out, Below.refl _ _, UpTo.zero⟩
  case round =>
    obtain ⟨j, a, hj, rfl, rfl, ha1, ha2, hla, hb1, hu⟩ := hrel
    have Hu := Lib.hid hu
    have Hla := Lib.hid hla
    clear hu hla
    have HB1 := Lib.hid hb1
    clear hb1
    by_cases hlt : j < n
    · obtain ⟨ad, cs, hk, rfl, hcl, hca, hE⟩ := RdS.at_ (Hv.out.below HB1.out) hlt
      obtain rfl := hE
      have HC := Lib.hid hca
      clear hca hcl
      have Hgj := Lib.hid (Hgo.out j gs[j])
      by_cases h3 : gs[j].xFrom < a + 2
      · have hw : IntKind.i64.wrap (a + 2) = a + 2 := by rw [IntWalk.i64_in _ (by omega)]
        have d3 : decide (gs[j].xFrom < a + 2) = true := by simp; omega
        go_wp2_with fail
        refine wp_region_steady (fun y => CellsAt y (ad.add (j * 2)) [.int .i64 gs[j].xFrom, .int .i64 gs[j].xTo] ∧ Below wr.heap.size wr y) (by kernel_rfl) (by kernel_rfl) (⟨HC.out.below (Below.refl _ _).drew, (Below.refl _ _).drew⟩) ?_
        repeat
          (first
            | (refine steady_no (by rfl) ?_)
            | (refine' steady_val (v := _) (by rfl) ?_ ?_
               rotate_left
               focus (intro y hS; have c0 := hS.1.c0; have c1 := hS.1.ci 0 rfl; clear hS; go_simp; first | done | with_reducible rfl))
           simp only [Act.put, List.setIfInBounds_toArray, List.set_cons_zero, List.set_cons_succ])
        refine steady_nil ?_
        intro w3 hS3
        have HC := Lib.hid hS3.1
        replace HB1 := Lib.hid (belowOn HB1.out HB1.out.size hS3.2)
        clear hS3
        have c1 := HC.out.ci 0 rfl
        go_wp2
        go_ret
        exact ⟨ret_bool (by have hb := allI_bad hk ((Hgj.out).trans (by rw [Hla.out, decide_eq_false (by omega : ¬ a + 2 ≤ gs[j].xFrom)]; rfl)); rw [Hall.out, hb]; simp), HB1.out⟩
      by_cases h4 : gs[j].xTo < gs[j].xFrom
      · have hw : IntKind.i64.wrap (a + 2) = a + 2 := by rw [IntWalk.i64_in _ (by omega)]
        have d3 : decide (gs[j].xFrom < a + 2) = false := by simp; omega
        have d4 : decide (gs[j].xTo < gs[j].xFrom) = true := by simp; omega
        go_wp2_with fail
        refine wp_region_steady (fun y => CellsAt y (ad.add (j * 2)) [.int .i64 gs[j].xFrom, .int .i64 gs[j].xTo] ∧ Below wr.heap.size wr y) (by kernel_rfl) (by kernel_rfl) (⟨HC.out.below (Below.refl _ _).drew, (Below.refl _ _).drew⟩) ?_
        repeat
          (first
            | (refine steady_no (by rfl) ?_)
            | (refine' steady_val (v := _) (by rfl) ?_ ?_
               rotate_left
               focus (intro y hS; have c0 := hS.1.c0; have c1 := hS.1.ci 0 rfl; clear hS; go_simp; first | done | with_reducible rfl))
           simp only [Act.put, List.setIfInBounds_toArray, List.set_cons_zero, List.set_cons_succ])
        refine steady_nil ?_
        intro w3 hS3
        have HC := Lib.hid hS3.1
        replace HB1 := Lib.hid (belowOn HB1.out HB1.out.size hS3.2)
        clear hS3
        have c1 := HC.out.ci 0 rfl
        go_wp2
        go_ret
        exact ⟨ret_bool (by have hb := allI_bad hk ((Hgj.out).trans (by simp [Int.not_le.2 h4])); rw [Hall.out, hb]; simp), HB1.out⟩
      by_cases h5 : 65535 < gs[j].xTo
      · have hw : IntKind.i64.wrap (a + 2) = a + 2 := by rw [IntWalk.i64_in _ (by omega)]
        have d3 : decide (gs[j].xFrom < a + 2) = false := by simp; omega
        have d4 : decide (gs[j].xTo < gs[j].xFrom) = false := by simp; omega
        have d5 : decide (65535 < gs[j].xTo) = true := by simp; omega
        go_wp2_with fail
        refine wp_region_steady (fun y => CellsAt y (ad.add (j * 2)) [.int .i64 gs[j].xFrom, .int .i64 gs[j].xTo] ∧ Below wr.heap.size wr y) (by kernel_rfl) (by kernel_rfl) (⟨HC.out.below (Below.refl _ _).drew, (Below.refl _ _).drew⟩) ?_
        repeat
          (first
            | (refine steady_no (by rfl) ?_)
            | (refine' steady_val (v := _) (by rfl) ?_ ?_
               rotate_left
               focus (intro y hS; have c0 := hS.1.c0; have c1 := hS.1.ci 0 rfl; clear hS; go_simp; first | done | with_reducible rfl))
           simp only [Act.put, List.setIfInBounds_toArray, List.set_cons_zero, List.set_cons_succ])
        refine steady_nil ?_
        intro w3 hS3
        have HC := Lib.hid hS3.1
        replace HB1 := Lib.hid (belowOn HB1.out HB1.out.size hS3.2)
        clear hS3
        have c1 := HC.out.ci 0 rfl
        go_wp2
        go_ret
        exact ⟨ret_bool (by have hb := allI_bad hk ((Hgj.out).trans (by simp [Int.not_le.2 h5])); rw [Hall.out, hb]; simp), HB1.out⟩
      · have hw : IntKind.i64.wrap (a + 2) = a + 2 := by rw [IntWalk.i64_in _ (by omega)]
        have d3 : decide (gs[j].xFrom < a + 2) = false := by simp; omega
        have d4 : decide (gs[j].xTo < gs[j].xFrom) = false := by simp; omega
        have d5 : decide (65535 < gs[j].xTo) = false := by simp; omega
        go_wp2_with fail
        refine wp_region_steady (fun y => CellsAt y (ad.add (j * 2)) [.int .i64 gs[j].xFrom, .int .i64 gs[j].xTo] ∧ Below wr.heap.size wr y) (by kernel_rfl) (by kernel_rfl) (⟨HC.out.below (Below.refl _ _).drew, (Below.refl _ _).drew⟩) ?_
        repeat
          (first
            | (refine steady_no (by rfl) ?_)
            | (refine' steady_val (v := _) (by rfl) ?_ ?_
               rotate_left
               focus (intro y hS; have c0 := hS.1.c0; have c1 := hS.1.ci 0 rfl; clear hS; go_simp; first | done | with_reducible rfl))
           simp only [Act.put, List.setIfInBounds_toArray, List.set_cons_zero, List.set_cons_succ])
        refine steady_nil ?_
        intro w3 hS3
        have HC := Lib.hid hS3.1
        replace HB1 := Lib.hid (belowOn HB1.out HB1.out.size hS3.2)
        clear hS3
        have c1 := HC.out.ci 0 rfl
        go_wp2
        exact ⟨⟨j + 1, gs[j].xTo, by omega, by go_num, rfl, by omega, by omega, Hgs.out j _ (List.getElem?_eq_getElem hk), HB1.out, Hu.out.succ hk ((Hgj.out).trans (by rw [Hla.out, decide_eq_true (by omega : a + 2 ≤ gs[j].xFrom), decide_eq_true (by omega : gs[j].xFrom ≤ gs[j].xTo), decide_eq_true (by omega : gs[j].xTo ≤ 65535)]; rfl))⟩, by simp [intOf]; omega⟩
    · go_wp2
      go_ret
      exact ⟨ret_bool (by have hb := Hu.out.done (by rw [Hl.out]; omega); rw [Hall.out, hb, decide_eq_true hf]; rfl), HB1.out⟩

set_option maxHeartbeats 800000 in
theorem frmGapsFit_r (v : Value) (gs : List DFrmGap) (w : World) (hv : RdFrmGapS w v gs) : Calls Try.prog 227 #[v] w fun e w' => e = .returned (.bool (gapsOk gs)) ∧ Below w.heap.size w w' := by
  obtain ⟨A, c, rfl⟩ := RdS.slice hv
  have hc := RdS.cap hv
  have Hv := Lib.hid hv
  clear hv
  have Hgo := Lib.hid (show ∀ j g, gapOk gs j g = (decide (gapLast gs j + 2 ≤ g.xFrom) && (decide (g.xFrom ≤ g.xTo) && decide (g.xTo ≤ 65535))) from fun _ _ => rfl)
  have Hgs := Lib.hid (show ∀ (j : Nat) (g : DFrmGap), gs[j]? = some g → gapLast gs (j + 1) = g.xTo from fun j g hp => gapLast_succ hp)
  have Hg0 := Lib.hid (show gapLast gs 0 = 0 from rfl)
  have Hall := Lib.hid (show gapsOk gs = (decide (gs.length ≤ 4) && allI (gapOk gs) gs) from rfl)
  generalize gapsOk gs = all at *
  generalize hl : gs.length = n at *
  have Hl := Lib.hid hl
  clear hl
  generalize gapLast gs = gl at *
  generalize gapOk gs = go at *
  rcases Nat.lt_or_ge 4 n with hf | hf
  · go_enter Try.func227, Try.ntmps227
    go_wp2
    go_ret
    exact ⟨ret_bool (by rw [Hall.out, decide_eq_false (Nat.not_le.2 hf)]; rfl), Below.refl _ _⟩
  go_enter Try.func227, Try.ntmps227
  go_wp2
  go_loopw [3, 11] (fun q i w1 => ∃ (j : Nat) (a : Int), j ≤ n ∧ i = .int .i64 j ∧ q = .int .i64 a ∧ 0 ≤ a ∧ a ≤ 65535 ∧ gl j = a ∧ Below w.heap.size w w1 ∧ UpTo go gs j) (fun _ i _ => n - (intOf i).toNat)
  case atStart => exact ⟨0, 0, by omega, rfl, rfl, by omega, by omega, Hg0.out, Below.refl _ _, UpTo.zero⟩
  case round =>
    obtain ⟨j, a, hj, rfl, rfl, ha1, ha2, hla, hb1, hu⟩ := hrel
    have Hu := Lib.hid hu
    have Hla := Lib.hid hla
    clear hu hla
    have HB1 := Lib.hid hb1
    clear hb1
    by_cases hlt : j < n
    · obtain ⟨ad, cs, hk, rfl, hcl, hca, hE⟩ := RdS.at_ (Hv.out.below HB1.out) hlt
      obtain rfl := hE
      have c0 := hca.c0
      have c1 := hca.ci 0 rfl
      clear hca hcl
      have KS := Lib.hid (Blk.new (w := wr) (b := wr.heap.size) #[.int .i64 gs[j].xFrom, .int .i64 gs[j].xTo] 307 rfl)
      replace HB1 := Lib.hid (HB1.out.alloc HB1.out.size (.cells #[.int .i64 gs[j].xFrom, .int .i64 gs[j].xTo] 307))
      have Hgj := Lib.hid (Hgo.out j gs[j])
      by_cases h3 : gs[j].xFrom < a + 2
      · go_wp2
        go_ret
        exact ⟨ret_bool (by have hb := allI_bad hk ((Hgj.out).trans (by rw [Hla.out, decide_eq_false (by omega : ¬ a + 2 ≤ gs[j].xFrom)]; rfl)); rw [Hall.out, hb]; simp), HB1.out⟩
      have Hin := Lib.hid (show inB gs[j].xTo gs[j].xFrom 65535 = (decide (gs[j].xFrom ≤ gs[j].xTo) && decide (gs[j].xTo ≤ 65535)) from rfl)
      rcases h4 : inB gs[j].xTo gs[j].xFrom 65535 with _ | _
      · go_wp2_with (go_at_call 88; refine (frmIn_any _ _ _ _).mono ?_; rintro e w' ⟨rfl, rfl⟩; rw [h4])
        go_ret
        exact ⟨ret_bool (by have hb := allI_bad hk ((Hgj.out).trans (by rw [← Hin.out, h4]; simp)); rw [Hall.out, hb]; simp), HB1.out⟩
      · have h4' := inB_iff.1 h4
        go_wp2_with (go_at_call 88; refine (frmIn_any _ _ _ _).mono ?_; rintro e w' ⟨rfl, rfl⟩; rw [h4])
        exact ⟨⟨j + 1, gs[j].xTo, by omega, by go_num, rfl, by omega, by omega, Hgs.out j _ (List.getElem?_eq_getElem hk), HB1.out, Hu.out.succ hk ((Hgj.out).trans (by rw [← Hin.out, h4, Hla.out, decide_eq_true (by omega : a + 2 ≤ gs[j].xFrom)]; rfl))⟩, by simp [intOf]; omega⟩
    · go_wp2
      go_ret
      exact ⟨ret_bool (by have hb := Hu.out.done (by rw [Hl.out]; omega); rw [Hall.out, hb, decide_eq_true hf]; rfl), HB1.out⟩

set_option maxHeartbeats 800000 in
theorem datNoPiece_r (cs : List Value) (p : DDatPiece) (w : World) (h : FDatPiece w cs p) : Calls Try.prog 228 #[.agg cs.toArray] w fun e w' => e = .returned (.bool (noPiece p)) ∧ Below w.heap.size w w' := by
  obtain ⟨v6, rfl, h6⟩ := h
  obtain ⟨A, c, rfl⟩ := h6.slice
  have hc := h6.cap
  clear h6
  generalize hl : p.xBody.length = n at *
  have Hl := Lib.hid hl
  clear hl
  go_enter Try.func228, Try.ntmps228
  go_wp2
  all_goals
    go_ret
    exact ⟨ret_bool (by have hl := Hl.out; simp_all [noPiece]), (Below.refl _ _).alloc (Nat.le_refl _) _⟩
set_option maxHeartbeats 1600000 in
theorem l10AirOk_r (cs : List Value) (x : DDatAir) (w : World) (h : FDatAir w cs x) : Calls Try.prog 161 #[.agg cs.toArray] w fun e w' => e = .returned (.bool (airOk x)) ∧ Below w.heap.size w w' := by
  obtain ⟨v7, v9, rfl, h7, h9⟩ := h
  obtain ⟨A7, q7, rfl⟩ := h7.slice
  obtain ⟨A9, q9, rfl⟩ := RdS.slice h9
  have hc7 := h7.cap
  have hc9 := RdS.cap h9
  have H7 := Lib.hid h7
  have H9 := Lib.hid h9
  clear h7 h9
  have K := Lib.hid (Blk.new (w := w) (b := w.heap.size) #[.bool x.xAnswer, .int .i64 x.xPiece.xTsn, .int .i64 x.xPiece.xStream, .int .i64 x.xPiece.xSsn, .bool x.xPiece.xFirst, .bool x.xPiece.xLast, .bool x.xPiece.xLoose, .slice A7 x.xPiece.xBody.length q7, .int .i64 x.xCum, .slice A9 x.xGaps.length q9] 212 rfl)
  have HB := Lib.hid ((Below.refl w.heap.size w).alloc (Nat.le_refl _) (.cells #[.bool x.xAnswer, .int .i64 x.xPiece.xTsn, .int .i64 x.xPiece.xStream, .int .i64 x.xPiece.xSsn, .bool x.xPiece.xFirst, .bool x.xPiece.xLast, .bool x.xPiece.xLoose, .slice A7 x.xPiece.xBody.length q7, .int .i64 x.xCum, .slice A9 x.xGaps.length q9] 212))
  have Hair := Lib.hid (airOk_eq x)
  rcases ha : x.xAnswer with _ | _
  · have k1 := K.out.at (i := 1) rfl
    rw [ha] at K HB
    go_enter Try.func161, Try.ntmps161
    go_wp2_with fail
    refine (l8PieceOk_r _ x.xPiece _ _ ⟨_, rfl, H7.out.below HB.out⟩ (by omega)).mono ?_
    rintro e w1 ⟨rfl, b1⟩
    replace K := Lib.hid (K.out.keep b1)
    replace HB := Lib.hid (HB.out.trans (b1.mono HB.out.size))
    clear b1 k1
    have k8 := K.out.at (i := 8) rfl
    have k9 := K.out.at (i := 9) rfl
    generalize x.xGaps.length = ng at *
    rcases h1 : pieceOk x.xPiece 8 with _ | _
    · go_wp2
      go_ret
      exact ⟨ret_bool (by rw [Hair.out, ha, h1]; rfl), HB.out⟩
    go_wp2
    all_goals
      go_ret
      exact ⟨ret_bool (by rw [Hair.out, ha, h1]; simp_all), HB.out⟩
  · rw [ha] at K HB
    rcases h1 : inB x.xCum 0 4294967295 with _ | _
    · go_enter Try.func161, Try.ntmps161
      go_wp2_with (go_at_call 95; refine (l4Long_any _ _).mono ?_; rintro e w' ⟨rfl, rfl⟩; rw [h1])
      go_ret
      exact ⟨ret_bool (by rw [Hair.out, ha, h1]; rfl), HB.out⟩
    go_enter Try.func161, Try.ntmps161
    go_wp2_with (go_at_call 95; refine (l4Long_any _ _).mono ?_; rintro e w' ⟨rfl, rfl⟩; rw [h1])
    refine (l4Gaps_r _ x.xGaps _ (H9.out.below HB.out)).mono ?_
    rintro e w1 ⟨rfl, b1⟩
    replace K := Lib.hid (K.out.keep b1)
    replace HB := Lib.hid (HB.out.trans (b1.mono HB.out.size))
    clear b1
    rcases h2 : gapsOk x.xGaps with _ | _
    · go_wp2
      go_ret
      exact ⟨ret_bool (by rw [Hair.out, ha, h1, h2]; rfl), HB.out⟩
    have k1 := K.out.at (i := 1) rfl
    have k2 := K.out.at (i := 2) rfl
    have k3 := K.out.at (i := 3) rfl
    have k4 := K.out.at (i := 4) rfl
    have k5 := K.out.at (i := 5) rfl
    have k6 := K.out.at (i := 6) rfl
    have k7 := K.out.at (i := 7) rfl
    have Hnp := Lib.hid (show noPiece x.xPiece = ((x.xPiece.xTsn == 0) && ((x.xPiece.xStream == 0) && ((x.xPiece.xSsn == 0) && (!x.xPiece.xFirst && (!x.xPiece.xLast && (!x.xPiece.xLoose && ((x.xPiece.xBody.length : Int) == 0))))))) from rfl)
    generalize noPiece x.xPiece = np at *
    generalize x.xPiece.xBody.length = nb at *
    go_wp2
    all_goals
      go_ret
      exact ⟨ret_bool (by have hnp := Hnp.out; rw [Hair.out, ha, h1, h2, hnp]; simp_all), HB.out⟩

set_option maxHeartbeats 1600000 in
theorem datAirOk_r (cs : List Value) (x : DDatAir) (w : World) (h : FDatAir w cs x) : Calls Try.prog 163 #[.agg cs.toArray] w fun e w' => e = .returned (.bool (airOk x)) ∧ Below w.heap.size w w' := by
  obtain ⟨v7, v9, rfl, h7, h9⟩ := h
  obtain ⟨A7, q7, rfl⟩ := h7.slice
  obtain ⟨A9, q9, rfl⟩ := RdS.slice h9
  have hc7 := h7.cap
  have hc9 := RdS.cap h9
  have H7 := Lib.hid h7
  have H9 := Lib.hid h9
  clear h7 h9
  have K := Lib.hid (Blk.new (w := w) (b := w.heap.size) #[.bool x.xAnswer, .int .i64 x.xPiece.xTsn, .int .i64 x.xPiece.xStream, .int .i64 x.xPiece.xSsn, .bool x.xPiece.xFirst, .bool x.xPiece.xLast, .bool x.xPiece.xLoose, .slice A7 x.xPiece.xBody.length q7, .int .i64 x.xCum, .slice A9 x.xGaps.length q9] 212 rfl)
  have HB := Lib.hid ((Below.refl w.heap.size w).alloc (Nat.le_refl _) (.cells #[.bool x.xAnswer, .int .i64 x.xPiece.xTsn, .int .i64 x.xPiece.xStream, .int .i64 x.xPiece.xSsn, .bool x.xPiece.xFirst, .bool x.xPiece.xLast, .bool x.xPiece.xLoose, .slice A7 x.xPiece.xBody.length q7, .int .i64 x.xCum, .slice A9 x.xGaps.length q9] 212))
  have Hair := Lib.hid (airOk_eq x)
  rcases ha : x.xAnswer with _ | _
  · have k1 := K.out.at (i := 1) rfl
    rw [ha] at K HB
    go_enter Try.func163, Try.ntmps163
    go_wp2_with fail
    refine (datPieceOk_r _ x.xPiece _ _ ⟨_, rfl, H7.out.below HB.out⟩ (by omega)).mono ?_
    rintro e w1 ⟨rfl, b1⟩
    replace K := Lib.hid (K.out.keep b1)
    replace HB := Lib.hid (HB.out.trans (b1.mono HB.out.size))
    clear b1 k1
    have k8 := K.out.at (i := 8) rfl
    have k9 := K.out.at (i := 9) rfl
    generalize x.xGaps.length = ng at *
    rcases h1 : pieceOk x.xPiece 8 with _ | _
    · go_wp2
      go_ret
      exact ⟨ret_bool (by rw [Hair.out, ha, h1]; rfl), HB.out⟩
    go_wp2
    all_goals
      go_ret
      exact ⟨ret_bool (by rw [Hair.out, ha, h1]; simp_all), HB.out⟩
  · rw [ha] at K HB
    rcases h1 : inB x.xCum 0 4294967295 with _ | _
    · go_enter Try.func163, Try.ntmps163
      go_wp2_with (go_at_call 102; refine (frmLong_any _ _).mono ?_; rintro e w' ⟨rfl, rfl⟩; rw [h1])
      go_ret
      exact ⟨ret_bool (by rw [Hair.out, ha, h1]; rfl), HB.out⟩
    go_enter Try.func163, Try.ntmps163
    go_wp2_with (go_at_call 102; refine (frmLong_any _ _).mono ?_; rintro e w' ⟨rfl, rfl⟩; rw [h1])
    refine (frmGapsFit_r _ x.xGaps _ (H9.out.below HB.out)).mono ?_
    rintro e w1 ⟨rfl, b1⟩
    replace H7 := Lib.hid (H7.out.below (belowOn (Below.refl _ _) (Nat.le_refl _) (HB.out.trans (b1.mono HB.out.size))))
    replace K := Lib.hid (K.out.keep b1)
    replace HB := Lib.hid (HB.out.trans (b1.mono HB.out.size))
    clear b1
    rcases h2 : gapsOk x.xGaps with _ | _
    · go_wp2
      go_ret
      exact ⟨ret_bool (by rw [Hair.out, ha, h1, h2]; rfl), HB.out⟩
    have k1 := K.out.at (i := 1) rfl
    have k2 := K.out.at (i := 2) rfl
    have k3 := K.out.at (i := 3) rfl
    have k4 := K.out.at (i := 4) rfl
    have k5 := K.out.at (i := 5) rfl
    have k6 := K.out.at (i := 6) rfl
    have k7 := K.out.at (i := 7) rfl
    go_wp2_with fail
    refine (datNoPiece_r _ x.xPiece _ ⟨_, rfl, H7.out⟩).mono ?_
    rintro e w2 ⟨rfl, b2⟩
    replace HB := Lib.hid (HB.out.trans (b2.mono HB.out.size))
    clear b2
    generalize hnp : noPiece x.xPiece = np at *
    have Hnp := Lib.hid hnp
    clear hnp
    go_wp2
    go_ret
    exact ⟨ret_bool (by rw [Hair.out, ha, h1, h2]; rfl), HB.out⟩

end Go.Proofs.Ytcflkcjicaieeaa
