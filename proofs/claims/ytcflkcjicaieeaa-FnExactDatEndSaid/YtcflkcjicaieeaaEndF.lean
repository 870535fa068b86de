/-
  What an end of all leaves: DatEnd of both programs, over two plain functions. (Written by wip/tools/genend.py.)
-/
import Derived.Test.YtcflkcjicaieeaaCopy
import Derived.Test.YtcflkcjicaieeaaAppI
import Derived.Test.YtcflkcjicaieeaaOutOkS
import Derived.Test.YtcflkcjicaieeaaOutOkI
import Derived.Test.YtcflkcjicaieeaaSteady
namespace Go.Proofs.Ytcflkcjicaieeaa
open Go.ChangeShapes Go.WideShapes Go.ChangeAt Go.RowKit
set_option linter.unusedVariables false
set_option linter.unusedSimpArgs false

def endStep (ms : List Int) (m : Int) : List Int := if ms.getLast? = some m then ms else ms ++ [m]
def endMarks (fl : List DDatSent) : List Int := fl.foldl (fun ms s => endStep ms s.xMark) []
noncomputable def endUnits (x : DDatOut) : List DDatUnit := if outOk x = true then x.xQueue else []
noncomputable def endMs (x : DDatOut) : List Int := if outOk x = true then endMarks x.xFlight else []
theorem endStep_nil {m : Int} : endStep [] m = [] ++ [m] := by simp [endStep]
theorem endStep_last {ms : List Int} {m : Int} {k : Nat} (h : ms.length = k + 1) : (ms[k] = m → endStep ms m = ms) ∧ (¬ ms[k] = m → endStep ms m = ms ++ [m]) := by
  have h1 : ms.getLast? = some ms[k] := by
    rw [List.getLast?_eq_getElem?, show ms.length - 1 = k by omega]
    exact List.getElem?_eq_getElem (by omega)
  constructor <;> intro h2 <;> simp [endStep, h1, h2]
theorem endMarks_succ {fl : List DDatSent} {j : Nat} (h : j < fl.length) : endMarks (fl.take (j + 1)) = endStep (endMarks (fl.take j)) fl[j].xMark := by
  unfold endMarks
  rw [List.take_succ_eq_append_getElem h, List.foldl_append]
  rfl
theorem endStep_len (ms : List Int) (m : Int) : (endStep ms m).length ≤ ms.length + 1 := by unfold endStep; split <;> simp
theorem endFold_len (fl : List DDatSent) : ∀ ms : List Int, (fl.foldl (fun ms s => endStep ms s.xMark) ms).length ≤ ms.length + fl.length := by
  induction fl with
  | nil => intro ms; simp
  | cons s fl ih => intro ms; have h1 := ih (endStep ms s.xMark); have h2 := endStep_len ms s.xMark; simp only [List.foldl_cons, List.length_cons]; omega
theorem endMarks_len (fl : List DDatSent) : (endMarks fl).length ≤ fl.length := by have := endFold_len fl []; simpa [endMarks] using this
theorem Nw.app2 {lo mid hi : Nat} {f g : List Nat} (h : Nw lo mid g) (k : Nw mid hi f) (h1 : lo ≤ mid) (h2 : mid ≤ hi) : Nw lo hi (f ++ g) := by
  refine ⟨List.nodup_append.2 ⟨k.1, h.1, fun a ha b hb => ?_⟩, fun b hb => ?_⟩
  · have := (k.2 a ha).1; have := (h.2 b hb).2; omega
  · rcases List.mem_append.1 hb with hb | hb
    · have := k.2 b hb; omega
    · have := h.2 b hb; omega
theorem datEnd_bd (x : DDatOut) (h : zDatOut x ≤ 1048576) : zL zDatUnit (endUnits x) ≤ 1048576 ∧ (endMs x).length ≤ 1048576 := by
  have h1 := endMarks_len x.xFlight
  unfold zDatOut at h
  unfold endUnits endMs
  split
  · refine ⟨by omega, ?_⟩
    have h2 : x.xFlight.length ≤ zL zDatSent x.xFlight := by unfold zL; omega
    omega
  · exact ⟨by simp [zL, szL], by simp⟩
set_option maxRecDepth 100000 in
set_option maxHeartbeats 2000000 in
theorem specDatEnd_n (cs : List Value) (x : DDatOut) (w : World) (h : FDatOut w cs x) (hz : zDatOut x ≤ 1048576) : Calls Try.prog 50 #[.agg cs.toArray] w fun e w' => ∃ v1 v2 f1 f2, e = .returned (.tuple #[v1, v2]) ∧ OwDatUnitS w' f1 v1 (endUnits x) ∧ OwIn w' f2 v2 (endMs x) ∧ Nw w.heap.size w'.heap.size (f1 ++ f2) ∧ Below w.heap.size w w' := by
  have HO := Lib.hid h
  obtain ⟨v2, v3, v4, rfl, h2, h3, h4⟩ := h
  obtain ⟨A2, q2, rfl⟩ := RdS.slice h2
  obtain ⟨A3, q3, rfl⟩ := RdS.slice h3
  obtain ⟨A4, q4, rfl⟩ := h4.slice
  have hc2 := RdS.cap h2
  have hn2 : x.xFlight.length ≤ 1048576 := by unfold zDatOut zL at hz; omega
  have Hq := Lib.hid (show zL zDatUnit x.xQueue ≤ 1048576 by unfold zDatOut at hz; omega)
  have H2 := Lib.hid h2
  have H3 := Lib.hid h3
  clear h2 h3 h4 hz
  have Hu1 := Lib.hid (show outOk x = false → endUnits x = [] ∧ endMs x = [] from fun h => by simp [endUnits, endMs, h])
  have Hu2 := Lib.hid (show outOk x = true → endUnits x = x.xQueue ∧ endMs x = endMarks x.xFlight from fun h => by simp [endUnits, endMs, h])
  generalize endUnits x = eu at *
  generalize endMs x = em at *
  generalize hfl : x.xFlight = fl at *
  generalize hl2 : fl.length = n2 at *
  have Hl2 := Lib.hid hl2
  clear hl2 hfl
  have K := Lib.hid (Blk.new (w := w) (b := w.heap.size) #[.int .i64 x.xStreams, .int .i64 x.xNext, .slice A2 n2 q2, .slice A3 x.xQueue.length q3, .slice A4 x.xSsns.length q4] 85 rfl)
  have HB := Lib.hid ((Below.refl w.heap.size w).alloc (Nat.le_refl _) (.cells #[.int .i64 x.xStreams, .int .i64 x.xNext, .slice A2 n2 q2, .slice A3 x.xQueue.length q3, .slice A4 x.xSsns.length q4] 85))
  have M := Lib.hid (OwIn.lit0 (w.alloc (.cells #[.int .i64 x.xStreams, .int .i64 x.xNext, .slice A2 n2 q2, .slice A3 x.xQueue.length q3, .slice A4 x.xSsns.length q4] 85)))
  have MN := Lib.hid (show Nw (w.heap.size + 1) ((w.alloc (.cells #[.int .i64 x.xStreams, .int .i64 x.xNext, .slice A2 n2 q2, .slice A3 x.xQueue.length q3, .slice A4 x.xSsns.length q4] 85)).alloc (.cells #[] 3)).heap.size [w.heap.size + 1] from ⟨by simp, by simp⟩)
  replace K := Lib.hid (K.out.alloc (.cells #[] 3))
  replace HB := Lib.hid (HB.out.alloc (by simp) (.cells #[] 3))
  simp only [World.size_alloc] at M
  go_enter Try.func50, Try.ntmps50
  go_wp2_with fail
  refine (specDatOutOk_r _ x _ (HO.out.below HB.out)).mono ?_
  rintro e w1 ⟨rfl, b1⟩
  have Z1 := Lib.hid (show w.heap.size + 1 ≤ w1.heap.size by have := b1.size; simp at this; omega)
  replace K := Lib.hid (K.out.keep b1)
  replace HB := Lib.hid (HB.out.trans (b1.mono HB.out.size))
  have M1 := Lib.hid (show OwIn w1 [w.heap.size + 1] (.slice (some ⟨w.heap.size + 1, 0, none⟩) 0 0) [] from M.out.below b1)
  have MN1 := Lib.hid (MN.out.mono (Nat.le_refl _) b1.size)
  clear M MN
  clear b1
  rcases hok : outOk x with _ | _
  · obtain ⟨hu, hm⟩ := Hu1.out hok
    have Hu := Lib.hid hu
    have Hm := Lib.hid hm
    clear hu hm
    go_wp2
    refine bodyPost_ret (v := .tuple #[.slice (some ⟨w1.heap.size, 0, none⟩) 0 0, .slice (some ⟨w.heap.size + 1, 0, none⟩) 0 0]) (by simp [results, Try.results50, go_sem]) rfl ?_
    refine ⟨_, _, [w1.heap.size], [w.heap.size + 1], rfl, by rw [Hu.out]; exact OwL.lit0 w1, by rw [Hm.out]; exact M1.out.below ((Below.refl _ _).alloc (Nat.le_refl _) _), ⟨by have := (MN1.out.2 _ (List.mem_singleton.2 rfl)).2; simp; omega, by have := (MN1.out.2 _ (List.mem_singleton.2 rfl)).2; have := Z1.out; simp; omega⟩, HB.out.alloc HB.out.size _⟩
  obtain ⟨hu, hm⟩ := Hu2.out hok
  have Hu := Lib.hid hu
  have Hm := Lib.hid hm
  clear hu hm
  have k2 := K.out.at (i := 2) rfl
  go_wp2
  go_loopw [4, 5] (fun q i w1 => ∃ (j : Nat) (f : List Nat), j ≤ n2 ∧ i = .int .i64 j ∧ OwIn w1 f q (endMarks (fl.take j)) ∧ Nw (w.heap.size + 1) w1.heap.size f ∧ w.heap.size + 1 ≤ w1.heap.size ∧ Blk w1 w.heap.size [.int .i64 x.xStreams, .int .i64 x.xNext, .slice A2 n2 q2, .slice A3 x.xQueue.length q3, .slice A4 x.xSsns.length q4] ∧ Below w.heap.size w w1) (fun _ i _ => n2 - (intOf i).toNat)
  case atStart => exact ⟨0, _, by omega, rfl, M1.out, MN1.out, Z1.out, K.out, HB.out⟩
  case round =>
    clear k2
    obtain ⟨j, f, hj, rfl, ho, hnw, hz1, hk1, hb1⟩ := hrel
    have Ho := Lib.hid ho
    have Hn := Lib.hid hnw
    have Z := Lib.hid hz1
    replace K := Lib.hid hk1
    replace HB := Lib.hid hb1
    obtain ⟨QA, qc, rfl⟩ := ho.rd.slice
    have Hml := Lib.hid (endMarks_len (fl.take j))
    clear ho hnw hz1 hk1 hb1 Z1
    have k2 := K.out.at (i := 2) rfl
    have k3 := K.out.at (i := 3) rfl
    by_cases hlt : j < n2
    · obtain ⟨ad, cs, hk, rfl, hcl, hca, hE⟩ := RdS.at_ (H2.out.below HB.out) hlt
      obtain ⟨v7, rfl, h7⟩ := hE
      obtain ⟨B7, e7, rfl⟩ := h7.slice
      have c0 := hca.c0
      clear hca hcl h7
      have Hs := Lib.hid (endMarks_succ hk)
      have Hlen := Lib.hid (show (endMarks (fl.take j)).length + [fl[j].xMark].length ≤ 1073741824 by have h1 := Hml.out; rw [List.length_take] at h1; simp; omega)
      generalize endMarks (fl.take j) = ms at *
      by_cases hms : ms = []
      · subst hms
        have b5 := (Below.refl wr.heap.size wr).alloc (Nat.le_refl _) (.cells #[.int .i64 fl[j].xMark] 3)
        have O5 := Lib.hid (Ho.out.below b5)
        have N5 := Lib.hid (Hn.out.mono (Nat.le_refl _) b5.size)
        have R5 := Lib.hid (Blk.rdI' fl[j].xMark (Blk.new (w := wr) (b := wr.heap.size) #[.int .i64 fl[j].xMark] 3 rfl))
        have L5 := Lib.hid (Nat.le_trans Z.out b5.size)
        have K5 := Lib.hid (K.out.keep b5)
        have B5 := Lib.hid (HB.out.trans (b5.mono HB.out.size))
        clear b5
        go_wp2_with (at_builtin; go_loud (refine wpList_appIn (lo := w.heap.size + 1) (ys := [fl[j].xMark]) _ rfl (.tmp 39) (.tmp 41) rfl rfl rfl O5.out N5.out R5.out Hlen.out L5.out ?_))
        intro v' w6 f6 h1 h2 h3
        have bb : Below (w.heap.size + 1) (wr.alloc (.cells #[.int .i64 fl[j].xMark] 3)) w6 := (Below.refl _ _).grown h3 L5.out (fun k hk' => (N5.out.2 k (by rw [← O5.out.own]; simp [hk'])).1)
        have H1 := Lib.hid h1
        have H2' := Lib.hid h2
        have Z6 := Lib.hid (Nat.le_trans L5.out bb.size)
        have K6 := Lib.hid (K5.out.below bb (Nat.lt_succ_self _))
        have B6 := Lib.hid (B5.out.trans (bb.mono (Nat.le_succ _)))
        clear h1 h2 h3 bb
        go_wp2
        exact ⟨⟨j + 1, f6, by omega, by go_num, by rw [Hs.out, endStep_nil]; exact H1.out, H2'.out, Z6.out, K6.out, B6.out⟩, by simp [intOf]; omega⟩
      · obtain ⟨k, hkm⟩ : ∃ k, ms.length = k + 1 := ⟨ms.length - 1, by have := List.length_pos_iff.2 hms; omega⟩
        clear hms
        obtain ⟨ad', hk', had, hcell⟩ := RdI.at_ (k := k) Ho.out.rd (by omega)
        subst had
        have Hst := Lib.hid (endStep_last (m := fl[j].xMark) hkm)
        have hkb : (k : Int) ≤ 1073741824 := by have := Hlen.out; simp at this; omega
        rw [hkm] at Ho ⊢
        have hcast : ((k + 1 : Nat) : Int) - 1 = (k : Int) := by omega
        by_cases hyy : ms[k] = fl[j].xMark
        · have hss := (Hst.out).1 hyy
          have Hss := Lib.hid hss
          clear hss
          go_wp2
          exact ⟨⟨j + 1, f, by omega, by go_num, by rw [Hs.out, Hss.out]; exact Ho.out, Hn.out, Z.out, K.out, HB.out⟩, by simp [intOf]; omega⟩
        · have Hss := Lib.hid ((Hst.out).2 hyy)
          have d1 : (ms[k] != fl[j].xMark) = true := by simp [hyy]
          have b5 := (Below.refl wr.heap.size wr).alloc (Nat.le_refl _) (.cells #[.int .i64 fl[j].xMark] 3)
          have O5 := Lib.hid (Ho.out.below b5)
          have N5 := Lib.hid (Hn.out.mono (Nat.le_refl _) b5.size)
          have R5 := Lib.hid (Blk.rdI' fl[j].xMark (Blk.new (w := wr) (b := wr.heap.size) #[.int .i64 fl[j].xMark] 3 rfl))
          have L5 := Lib.hid (Nat.le_trans Z.out b5.size)
          have K5 := Lib.hid (K.out.keep b5)
          have B5 := Lib.hid (HB.out.trans (b5.mono HB.out.size))
          clear b5
          go_wp2_with (at_builtin; go_loud (refine wpList_appIn (lo := w.heap.size + 1) (ys := [fl[j].xMark]) _ rfl (.tmp 39) (.tmp 41) rfl rfl rfl O5.out N5.out R5.out Hlen.out L5.out ?_))
          intro v' w6 f6 h1 h2 h3
          have bb : Below (w.heap.size + 1) (wr.alloc (.cells #[.int .i64 fl[j].xMark] 3)) w6 := (Below.refl _ _).grown h3 L5.out (fun k hk' => (N5.out.2 k (by rw [← O5.out.own]; simp [hk'])).1)
          have H1 := Lib.hid h1
          have H2' := Lib.hid h2
          have Z6 := Lib.hid (Nat.le_trans L5.out bb.size)
          have K6 := Lib.hid (K5.out.below bb (Nat.lt_succ_self _))
          have B6 := Lib.hid (B5.out.trans (bb.mono (Nat.le_succ _)))
          clear h1 h2 h3 bb
          go_wp2
          exact ⟨⟨j + 1, f6, by omega, by go_num, by rw [Hs.out, Hss.out]; exact H1.out, H2'.out, Z6.out, K6.out, B6.out⟩, by simp [intOf]; omega⟩
    · have : j = n2 := by omega
      subst this
      have ho := Ho.out
      have htk := List.take_of_length_le (l := fl) (i := j) (by rw [Hl2.out]; omega)
      generalize (endMarks (fl.take j)).length = lm at *
      rw [htk, ← Hm.out] at ho
      replace Ho := Lib.hid ho
      clear ho htk
      go_wp2_with fail
      refine (l8Units_n _ x.xQueue _ (H3.out.below HB.out) Hq.out).mono ?_
      rintro e w7 ⟨v', f', rfl, o7, n7, b7⟩
      replace Ho := Lib.hid (Ho.out.below b7)
      have N7 := Lib.hid (show Nw w.heap.size w7.heap.size (f' ++ f) from (Hn.out.mono (Nat.le_succ _) (Nat.le_refl _)).app2 n7 HB.out.size b7.size)
      replace HB := Lib.hid (HB.out.trans (b7.mono HB.out.size))
      have O7 := Lib.hid o7
      clear o7 n7 b7
      go_wp2
      refine bodyPost_ret (v := .tuple #[v', .slice QA lm qc]) (by simp [results, Try.results50, go_sem]) rfl ?_
      exact ⟨_, _, f', f, rfl, by rw [Hu.out]; exact O7.out, Ho.out, N7.out, HB.out⟩
set_option maxRecDepth 100000 in
set_option maxHeartbeats 2000000 in
theorem implDatEnd_n (cs : List Value) (x : DDatOut) (w : World) (h : FDatOut w cs x) (hz : zDatOut x ≤ 1048576) : Calls Try.prog 52 #[.agg cs.toArray] w fun e w' => ∃ v1 v2 f1 f2, e = .returned (.tuple #[v1, v2]) ∧ OwDatUnitS w' f1 v1 (endUnits x) ∧ OwIn w' f2 v2 (endMs x) ∧ Nw w.heap.size w'.heap.size (f1 ++ f2) ∧ Below w.heap.size w w' := by
  have HO := Lib.hid h
  obtain ⟨v2, v3, v4, rfl, h2, h3, h4⟩ := h
  obtain ⟨A2, q2, rfl⟩ := RdS.slice h2
  obtain ⟨A3, q3, rfl⟩ := RdS.slice h3
  obtain ⟨A4, q4, rfl⟩ := h4.slice
  have hc2 := RdS.cap h2
  have hn2 : x.xFlight.length ≤ 1048576 := by unfold zDatOut zL at hz; omega
  have Hq := Lib.hid (show zL zDatUnit x.xQueue ≤ 1048576 by unfold zDatOut at hz; omega)
  have H2 := Lib.hid h2
  have H3 := Lib.hid h3
  clear h2 h3 h4 hz
  have Hu1 := Lib.hid (show outOk x = false → endUnits x = [] ∧ endMs x = [] from fun h => by simp [endUnits, endMs, h])
  have Hu2 := Lib.hid (show outOk x = true → endUnits x = x.xQueue ∧ endMs x = endMarks x.xFlight from fun h => by simp [endUnits, endMs, h])
  generalize endUnits x = eu at *
  generalize endMs x = em at *
  generalize hfl : x.xFlight = fl at *
  generalize hl2 : fl.length = n2 at *
  have Hl2 := Lib.hid hl2
  clear hl2 hfl
  have K := Lib.hid (Blk.new (w := w) (b := w.heap.size) #[.int .i64 x.xStreams, .int .i64 x.xNext, .slice A2 n2 q2, .slice A3 x.xQueue.length q3, .slice A4 x.xSsns.length q4] 85 rfl)
  have HB := Lib.hid ((Below.refl w.heap.size w).alloc (Nat.le_refl _) (.cells #[.int .i64 x.xStreams, .int .i64 x.xNext, .slice A2 n2 q2, .slice A3 x.xQueue.length q3, .slice A4 x.xSsns.length q4] 85))
  go_enter Try.func52, Try.ntmps52
  go_wp2_with fail
  refine (implDatOutOk_r _ x _ (HO.out.below HB.out)).mono ?_
  rintro e w1 ⟨rfl, b1⟩
  have Z1 := Lib.hid (show w.heap.size + 1 ≤ w1.heap.size by have := b1.size; simp at this; omega)
  replace K := Lib.hid (K.out.keep b1)
  replace HB := Lib.hid (HB.out.trans (b1.mono HB.out.size))
  clear b1
  rcases hok : outOk x with _ | _
  · obtain ⟨hu, hm⟩ := Hu1.out hok
    have Hu := Lib.hid hu
    have Hm := Lib.hid hm
    clear hu hm
    go_wp2
    refine bodyPost_ret (v := .tuple #[.slice none 0 0, .slice none 0 0]) (by simp [results, Try.results52, go_sem]) rfl ?_
    exact ⟨_, _, [], [], rfl, by rw [Hu.out]; exact OwL.nil _, by rw [Hm.out]; exact OwIn.nil _, Nw.nil _ _, HB.out⟩
  obtain ⟨hu, hm⟩ := Hu2.out hok
  have Hu := Lib.hid hu
  have Hm := Lib.hid hm
  clear hu hm
  have k2 := K.out.at (i := 2) rfl
  go_wp2
  go_loopw [4, 13] (fun q i w1 => ∃ (j : Nat) (f : List Nat), j ≤ n2 ∧ i = .int .i64 j ∧ OwIn w1 f q (endMarks (fl.take j)) ∧ Nw (w.heap.size + 1) w1.heap.size f ∧ w.heap.size + 1 ≤ w1.heap.size ∧ Blk w1 w.heap.size [.int .i64 x.xStreams, .int .i64 x.xNext, .slice A2 n2 q2, .slice A3 x.xQueue.length q3, .slice A4 x.xSsns.length q4] ∧ Below w.heap.size w w1) (fun _ i _ => n2 - (intOf i).toNat)
  case atStart => exact ⟨0, [], by omega, rfl, OwIn.nil _, Nw.nil _ _, Z1.out, K.out, HB.out⟩
  case round =>
    clear k2
    obtain ⟨j, f, hj, rfl, ho, hnw, hz1, hk1, hb1⟩ := hrel
    have Ho := Lib.hid ho
    have Hn := Lib.hid hnw
    have Z := Lib.hid hz1
    replace K := Lib.hid hk1
    replace HB := Lib.hid hb1
    obtain ⟨QA, qc, rfl⟩ := ho.rd.slice
    have Hml := Lib.hid (endMarks_len (fl.take j))
    clear ho hnw hz1 hk1 hb1 Z1
    have k2 := K.out.at (i := 2) rfl
    have k3 := K.out.at (i := 3) rfl
    by_cases hlt : j < n2
    · obtain ⟨ad, cs, hk, rfl, hcl, hca, hE⟩ := RdS.at_ (H2.out.below HB.out) hlt
      obtain ⟨v7, rfl, h7⟩ := hE
      obtain ⟨B7, e7, rfl⟩ := h7.slice
      have c0 := hca.c0
      have c1 := hca.ci 0 rfl
      have c2 := hca.ci 1 rfl
      have c3 := hca.ci 2 rfl
      have c4 := hca.ci 3 rfl
      have c5 := hca.ci 4 rfl
      have c6 := hca.ci 5 rfl
      have c7 := hca.ci 6 rfl
      have c8 := hca.ci 7 rfl
      have c9 := hca.ci 8 rfl
      clear hca hcl h7
      have Hs := Lib.hid (endMarks_succ hk)
      have Hlen := Lib.hid (show (endMarks (fl.take j)).length + [fl[j].xMark].length ≤ 1073741824 by have h1 := Hml.out; rw [List.length_take] at h1; simp; omega)
      generalize endMarks (fl.take j) = ms at *
      have KS := Lib.hid (Blk.new (w := wr) (b := wr.heap.size) #[.int .i64 fl[j].xMark, .int .i64 fl[j].xPiece.xTsn, .int .i64 fl[j].xPiece.xStream, .int .i64 fl[j].xPiece.xSsn, .bool fl[j].xPiece.xFirst, .bool fl[j].xPiece.xLast, .bool fl[j].xPiece.xLoose, .slice B7 fl[j].xPiece.xBody.length e7, .int .i64 fl[j].xTimes, .bool fl[j].xAcked] 189 rfl)
      have b0 := (Below.refl wr.heap.size wr).alloc (Nat.le_refl _) (.cells #[.int .i64 fl[j].xMark, .int .i64 fl[j].xPiece.xTsn, .int .i64 fl[j].xPiece.xStream, .int .i64 fl[j].xPiece.xSsn, .bool fl[j].xPiece.xFirst, .bool fl[j].xPiece.xLast, .bool fl[j].xPiece.xLoose, .slice B7 fl[j].xPiece.xBody.length e7, .int .i64 fl[j].xTimes, .bool fl[j].xAcked] 189)
      replace Ho := Lib.hid (Ho.out.below b0)
      replace Hn := Lib.hid (Hn.out.mono (Nat.le_refl _) b0.size)
      replace Z := Lib.hid (Nat.le_trans Z.out b0.size)
      replace K := Lib.hid (K.out.keep b0)
      replace HB := Lib.hid (HB.out.trans (b0.mono HB.out.size))
      clear b0
      by_cases hms : ms = []
      · subst hms
        go_wp2_with fail
        refine wp_region_steady (fun y => y.cell? ⟨wr.heap.size, 0, none⟩ = some (.int .i64 fl[j].xMark) ∧ Below (wr.alloc (.cells #[.int .i64 fl[j].xMark, .int .i64 fl[j].xPiece.xTsn, .int .i64 fl[j].xPiece.xStream, .int .i64 fl[j].xPiece.xSsn, .bool fl[j].xPiece.xFirst, .bool fl[j].xPiece.xLast, .bool fl[j].xPiece.xLoose, .slice B7 fl[j].xPiece.xBody.length e7, .int .i64 fl[j].xTimes, .bool fl[j].xAcked] 189)).heap.size (wr.alloc (.cells #[.int .i64 fl[j].xMark, .int .i64 fl[j].xPiece.xTsn, .int .i64 fl[j].xPiece.xStream, .int .i64 fl[j].xPiece.xSsn, .bool fl[j].xPiece.xFirst, .bool fl[j].xPiece.xLast, .bool fl[j].xPiece.xLoose, .slice B7 fl[j].xPiece.xBody.length e7, .int .i64 fl[j].xTimes, .bool fl[j].xAcked] 189)) y) (by kernel_rfl) (by kernel_rfl) (⟨KS.out.drew.at rfl, (Below.refl _ _).drew⟩) ?_
        repeat
          (first
            | (refine steady_no (by rfl) ?_)
            | (refine' steady_val (v := _) (by rfl) ?_ ?_
               rotate_left
               focus (intro y hS; have c0 := hS.1; clear hS; go_simp; first | done | with_reducible rfl))
           simp only [Act.put, List.setIfInBounds_toArray, List.set_cons_zero, List.set_cons_succ])
        refine steady_nil ?_
        intro w3 hS3
        have b3 : Below (wr.alloc (.cells #[.int .i64 fl[j].xMark, .int .i64 fl[j].xPiece.xTsn, .int .i64 fl[j].xPiece.xStream, .int .i64 fl[j].xPiece.xSsn, .bool fl[j].xPiece.xFirst, .bool fl[j].xPiece.xLast, .bool fl[j].xPiece.xLoose, .slice B7 fl[j].xPiece.xBody.length e7, .int .i64 fl[j].xTimes, .bool fl[j].xAcked] 189)).heap.size (wr.alloc (.cells #[.int .i64 fl[j].xMark, .int .i64 fl[j].xPiece.xTsn, .int .i64 fl[j].xPiece.xStream, .int .i64 fl[j].xPiece.xSsn, .bool fl[j].xPiece.xFirst, .bool fl[j].xPiece.xLast, .bool fl[j].xPiece.xLoose, .slice B7 fl[j].xPiece.xBody.length e7, .int .i64 fl[j].xTimes, .bool fl[j].xAcked] 189)) w3 := hS3.2
        replace Ho := Lib.hid (Ho.out.below b3)
        replace Hn := Lib.hid (Hn.out.mono (Nat.le_refl _) b3.size)
        replace Z := Lib.hid (Nat.le_trans Z.out b3.size)
        replace K := Lib.hid (K.out.keep b3)
        replace HB := Lib.hid (HB.out.trans (b3.mono HB.out.size))
        replace KS := Lib.hid (KS.out.keep b3)
        clear b3 hS3
        have s0 := KS.out.at (i := 0) rfl
        have b5 := (Below.refl w3.heap.size w3).alloc (Nat.le_refl _) (.cells #[.int .i64 fl[j].xMark] 3)
        have O5 := Lib.hid (Ho.out.below b5)
        have N5 := Lib.hid (Hn.out.mono (Nat.le_refl _) b5.size)
        have R5 := Lib.hid (Blk.rdI' fl[j].xMark (Blk.new (w := w3) (b := w3.heap.size) #[.int .i64 fl[j].xMark] 3 rfl))
        have L5 := Lib.hid (Nat.le_trans Z.out b5.size)
        have K5 := Lib.hid (K.out.keep b5)
        have B5 := Lib.hid (HB.out.trans (b5.mono HB.out.size))
        clear b5
        go_wp2_with (at_builtin; go_loud (refine wpList_appIn (lo := w.heap.size + 1) (ys := [fl[j].xMark]) _ rfl (.tmp 31) (.tmp 34) rfl rfl rfl O5.out N5.out R5.out Hlen.out L5.out ?_))
        intro v' w6 f6 h1 h2 h3
        have bb : Below (w.heap.size + 1) (w3.alloc (.cells #[.int .i64 fl[j].xMark] 3)) w6 := (Below.refl _ _).grown h3 L5.out (fun k hk' => (N5.out.2 k (by rw [← O5.out.own]; simp [hk'])).1)
        have H1 := Lib.hid h1
        have H2' := Lib.hid h2
        have Z6 := Lib.hid (Nat.le_trans L5.out bb.size)
        have K6 := Lib.hid (K5.out.below bb (Nat.lt_succ_self _))
        have B6 := Lib.hid (B5.out.trans (bb.mono (Nat.le_succ _)))
        clear h1 h2 h3 bb
        go_wp2
        exact ⟨⟨j + 1, f6, by omega, by go_num, by rw [Hs.out, endStep_nil]; exact H1.out, H2'.out, Z6.out, K6.out, B6.out⟩, by simp [intOf]; omega⟩
      · obtain ⟨k, hkm⟩ : ∃ k, ms.length = k + 1 := ⟨ms.length - 1, by have := List.length_pos_iff.2 hms; omega⟩
        clear hms
        obtain ⟨ad', hk', had, hcell⟩ := RdI.at_ (k := k) Ho.out.rd (by omega)
        subst had
        have Hst := Lib.hid (endStep_last (m := fl[j].xMark) hkm)
        have hkb : (k : Int) ≤ 1073741824 := by have := Hlen.out; simp at this; omega
        rw [hkm] at Ho ⊢
        have d0 : (((k : Int) + 1) == 0) = false := by simp; omega
        have hw1 : IntKind.i64.wrap ((k : Int) + 1 - 1) = k := by rw [IntWalk.i64_in _ (by omega)]; omega
        have hw2 : IntKind.i64.wrap (k : Int) = k := by rw [IntWalk.i64_in _ (by omega)]
        have hx1 : (k : Int) < (k : Int) + 1 := by omega
        by_cases hyy : ms[k] = fl[j].xMark
        · have Hss := Lib.hid ((Hst.out).1 hyy)
          have d1 : (ms[k] != fl[j].xMark) = false := by simp [hyy]
          go_wp2_with fail
          refine wp_region_steady (fun y => y.cell? ⟨wr.heap.size, 0, none⟩ = some (.int .i64 fl[j].xMark) ∧ y.cell? (ad'.add k) = some (.int .i64 ms[k]) ∧ Below (wr.alloc (.cells #[.int .i64 fl[j].xMark, .int .i64 fl[j].xPiece.xTsn, .int .i64 fl[j].xPiece.xStream, .int .i64 fl[j].xPiece.xSsn, .bool fl[j].xPiece.xFirst, .bool fl[j].xPiece.xLast, .bool fl[j].xPiece.xLoose, .slice B7 fl[j].xPiece.xBody.length e7, .int .i64 fl[j].xTimes, .bool fl[j].xAcked] 189)).heap.size (wr.alloc (.cells #[.int .i64 fl[j].xMark, .int .i64 fl[j].xPiece.xTsn, .int .i64 fl[j].xPiece.xStream, .int .i64 fl[j].xPiece.xSsn, .bool fl[j].xPiece.xFirst, .bool fl[j].xPiece.xLast, .bool fl[j].xPiece.xLoose, .slice B7 fl[j].xPiece.xBody.length e7, .int .i64 fl[j].xTimes, .bool fl[j].xAcked] 189)) y) (by kernel_rfl) (by kernel_rfl) (⟨KS.out.drew.at rfl, (show (wr.alloc (.cells #[.int .i64 fl[j].xMark, .int .i64 fl[j].xPiece.xTsn, .int .i64 fl[j].xPiece.xStream, .int .i64 fl[j].xPiece.xSsn, .bool fl[j].xPiece.xFirst, .bool fl[j].xPiece.xLast, .bool fl[j].xPiece.xLoose, .slice B7 fl[j].xPiece.xBody.length e7, .int .i64 fl[j].xTimes, .bool fl[j].xAcked] 189)).drew.cell? _ = _ from hcell), (Below.refl _ _).drew⟩) ?_
          repeat
            (first
              | (refine steady_no (by rfl) ?_)
              | (refine' steady_val (v := _) (by rfl) ?_ ?_
                 rotate_left
                 focus (intro y hS; have c0 := hS.1; have c1 := hS.2.1; clear hS; go_simp; first | done | with_reducible rfl))
             simp only [Act.put, List.setIfInBounds_toArray, List.set_cons_zero, List.set_cons_succ])
          refine steady_nil ?_
          intro w3 hS3
          have b3 : Below (wr.alloc (.cells #[.int .i64 fl[j].xMark, .int .i64 fl[j].xPiece.xTsn, .int .i64 fl[j].xPiece.xStream, .int .i64 fl[j].xPiece.xSsn, .bool fl[j].xPiece.xFirst, .bool fl[j].xPiece.xLast, .bool fl[j].xPiece.xLoose, .slice B7 fl[j].xPiece.xBody.length e7, .int .i64 fl[j].xTimes, .bool fl[j].xAcked] 189)).heap.size (wr.alloc (.cells #[.int .i64 fl[j].xMark, .int .i64 fl[j].xPiece.xTsn, .int .i64 fl[j].xPiece.xStream, .int .i64 fl[j].xPiece.xSsn, .bool fl[j].xPiece.xFirst, .bool fl[j].xPiece.xLast, .bool fl[j].xPiece.xLoose, .slice B7 fl[j].xPiece.xBody.length e7, .int .i64 fl[j].xTimes, .bool fl[j].xAcked] 189)) w3 := hS3.2.2
          replace Ho := Lib.hid (Ho.out.below b3)
          replace Hn := Lib.hid (Hn.out.mono (Nat.le_refl _) b3.size)
          replace Z := Lib.hid (Nat.le_trans Z.out b3.size)
          replace K := Lib.hid (K.out.keep b3)
          replace HB := Lib.hid (HB.out.trans (b3.mono HB.out.size))
          replace KS := Lib.hid (KS.out.keep b3)
          clear b3 hS3
          have s0 := KS.out.at (i := 0) rfl
          go_wp2
          exact ⟨⟨j + 1, f, by omega, by go_num, by rw [Hs.out, Hss.out]; exact Ho.out, Hn.out, Z.out, K.out, HB.out⟩, by simp [intOf]; omega⟩
        · have Hss := Lib.hid ((Hst.out).2 hyy)
          have d1 : (ms[k] != fl[j].xMark) = true := by simp [hyy]
          go_wp2_with fail
          refine wp_region_steady (fun y => y.cell? ⟨wr.heap.size, 0, none⟩ = some (.int .i64 fl[j].xMark) ∧ y.cell? (ad'.add k) = some (.int .i64 ms[k]) ∧ Below (wr.alloc (.cells #[.int .i64 fl[j].xMark, .int .i64 fl[j].xPiece.xTsn, .int .i64 fl[j].xPiece.xStream, .int .i64 fl[j].xPiece.xSsn, .bool fl[j].xPiece.xFirst, .bool fl[j].xPiece.xLast, .bool fl[j].xPiece.xLoose, .slice B7 fl[j].xPiece.xBody.length e7, .int .i64 fl[j].xTimes, .bool fl[j].xAcked] 189)).heap.size (wr.alloc (.cells #[.int .i64 fl[j].xMark, .int .i64 fl[j].xPiece.xTsn, .int .i64 fl[j].xPiece.xStream, .int .i64 fl[j].xPiece.xSsn, .bool fl[j].xPiece.xFirst, .bool fl[j].xPiece.xLast, .bool fl[j].xPiece.xLoose, .slice B7 fl[j].xPiece.xBody.length e7, .int .i64 fl[j].xTimes, .bool fl[j].xAcked] 189)) y) (by kernel_rfl) (by kernel_rfl) (⟨KS.out.drew.at rfl, (show (wr.alloc (.cells #[.int .i64 fl[j].xMark, .int .i64 fl[j].xPiece.xTsn, .int .i64 fl[j].xPiece.xStream, .int .i64 fl[j].xPiece.xSsn, .bool fl[j].xPiece.xFirst, .bool fl[j].xPiece.xLast, .bool fl[j].xPiece.xLoose, .slice B7 fl[j].xPiece.xBody.length e7, .int .i64 fl[j].xTimes, .bool fl[j].xAcked] 189)).drew.cell? _ = _ from hcell), (Below.refl _ _).drew⟩) ?_
          repeat
            (first
              | (refine steady_no (by rfl) ?_)
              | (refine' steady_val (v := _) (by rfl) ?_ ?_
                 rotate_left
                 focus (intro y hS; have c0 := hS.1; have c1 := hS.2.1; clear hS; go_simp; first | done | with_reducible rfl))
             simp only [Act.put, List.setIfInBounds_toArray, List.set_cons_zero, List.set_cons_succ])
          refine steady_nil ?_
          intro w3 hS3
          have b3 : Below (wr.alloc (.cells #[.int .i64 fl[j].xMark, .int .i64 fl[j].xPiece.xTsn, .int .i64 fl[j].xPiece.xStream, .int .i64 fl[j].xPiece.xSsn, .bool fl[j].xPiece.xFirst, .bool fl[j].xPiece.xLast, .bool fl[j].xPiece.xLoose, .slice B7 fl[j].xPiece.xBody.length e7, .int .i64 fl[j].xTimes, .bool fl[j].xAcked] 189)).heap.size (wr.alloc (.cells #[.int .i64 fl[j].xMark, .int .i64 fl[j].xPiece.xTsn, .int .i64 fl[j].xPiece.xStream, .int .i64 fl[j].xPiece.xSsn, .bool fl[j].xPiece.xFirst, .bool fl[j].xPiece.xLast, .bool fl[j].xPiece.xLoose, .slice B7 fl[j].xPiece.xBody.length e7, .int .i64 fl[j].xTimes, .bool fl[j].xAcked] 189)) w3 := hS3.2.2
          replace Ho := Lib.hid (Ho.out.below b3)
          replace Hn := Lib.hid (Hn.out.mono (Nat.le_refl _) b3.size)
          replace Z := Lib.hid (Nat.le_trans Z.out b3.size)
          replace K := Lib.hid (K.out.keep b3)
          replace HB := Lib.hid (HB.out.trans (b3.mono HB.out.size))
          replace KS := Lib.hid (KS.out.keep b3)
          clear b3 hS3
          have s0 := KS.out.at (i := 0) rfl
          have b5 := (Below.refl w3.heap.size w3).alloc (Nat.le_refl _) (.cells #[.int .i64 fl[j].xMark] 3)
          have O5 := Lib.hid (Ho.out.below b5)
          have N5 := Lib.hid (Hn.out.mono (Nat.le_refl _) b5.size)
          have R5 := Lib.hid (Blk.rdI' fl[j].xMark (Blk.new (w := w3) (b := w3.heap.size) #[.int .i64 fl[j].xMark] 3 rfl))
          have L5 := Lib.hid (Nat.le_trans Z.out b5.size)
          have K5 := Lib.hid (K.out.keep b5)
          have B5 := Lib.hid (HB.out.trans (b5.mono HB.out.size))
          clear b5
          go_wp2_with (at_builtin; go_loud (refine wpList_appIn (lo := w.heap.size + 1) (ys := [fl[j].xMark]) _ rfl (.tmp 31) (.tmp 34) rfl rfl rfl O5.out N5.out R5.out Hlen.out L5.out ?_))
          intro v' w6 f6 h1 h2 h3
          have bb : Below (w.heap.size + 1) (w3.alloc (.cells #[.int .i64 fl[j].xMark] 3)) w6 := (Below.refl _ _).grown h3 L5.out (fun k hk' => (N5.out.2 k (by rw [← O5.out.own]; simp [hk'])).1)
          have H1 := Lib.hid h1
          have H2' := Lib.hid h2
          have Z6 := Lib.hid (Nat.le_trans L5.out bb.size)
          have K6 := Lib.hid (K5.out.below bb (Nat.lt_succ_self _))
          have B6 := Lib.hid (B5.out.trans (bb.mono (Nat.le_succ _)))
          clear h1 h2 h3 bb
          go_wp2
          exact ⟨⟨j + 1, f6, by omega, by go_num, by rw [Hs.out, Hss.out]; exact H1.out, H2'.out, Z6.out, K6.out, B6.out⟩, by simp [intOf]; omega⟩
    · have : j = n2 := by omega
      subst this
      have ho := Ho.out
      have htk := List.take_of_length_le (l := fl) (i := j) (by rw [Hl2.out]; omega)
      generalize (endMarks (fl.take j)).length = lm at *
      rw [htk, ← Hm.out] at ho
      replace Ho := Lib.hid ho
      clear ho htk
      go_wp2_with fail
      refine (datOwnDatUnit_n _ x.xQueue _ (H3.out.below HB.out) Hq.out).mono ?_
      rintro e w7 ⟨v', f', rfl, o7, n7, b7⟩
      replace Ho := Lib.hid (Ho.out.below b7)
      have N7 := Lib.hid (show Nw w.heap.size w7.heap.size (f' ++ f) from (Hn.out.mono (Nat.le_succ _) (Nat.le_refl _)).app2 n7 HB.out.size b7.size)
      replace HB := Lib.hid (HB.out.trans (b7.mono HB.out.size))
      have O7 := Lib.hid o7
      clear o7 n7 b7
      go_wp2
      refine bodyPost_ret (v := .tuple #[v', .slice QA lm qc]) (by simp [results, Try.results52, go_sem]) rfl ?_
      exact ⟨_, _, f', f, rfl, by rw [Hu.out]; exact O7.out, Ho.out, N7.out, HB.out⟩
end Go.Proofs.Ytcflkcjicaieeaa
