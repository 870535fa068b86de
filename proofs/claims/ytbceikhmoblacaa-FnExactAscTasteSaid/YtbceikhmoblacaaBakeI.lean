/-
  A cookie is baked: the program's contract.
-/
import Derived.Test.YtbceikhmoblacaaBakeS
namespace Go.Proofs.Ytbceikhmoblacaa
open Go.ChangeShapes Go.WideShapes Go.ChangeAt Go.RowKit
set_option linter.unusedVariables false
set_option linter.unusedSimpArgs false

set_option maxHeartbeats 400000 in
theorem frmTagB_any (n : Int) (w : World) : Calls Try.prog 165 #[.int .i64 n] w fun e w' => e = .returned (.bool (inB n 1 4294967295)) ∧ w = w' := by
  go_enter Try.func165, Try.ntmps165
  go_wp2_with (go_at_call 87; refine (frmIn_any _ _ _ _).mono ?_; rintro e w' ⟨rfl, rfl⟩)
  go_ret
  exact ⟨rfl, rfl⟩
set_option maxHeartbeats 2000000 in
theorem ascFits_any (x : DAscCookie) (w : World) : Calls Try.prog 100 #[.agg #[.int .i64 x.xMe, .int .i64 x.xPeer, .int .i64 x.xTag, .int .i64 x.xPeerTag, .int .i64 x.xTsn, .int .i64 x.xPeerTsn, .int .i64 x.xStreams, .int .i64 x.xMade, .int .i64 x.xOldTag, .int .i64 x.xOldPeerTag, .int .i64 x.xMac]] w fun e w' => e = .returned (.bool (fitsC x)) ∧ Below w.heap.size w w' := by
  obtain ⟨me, pe, ta, pt, ts, ps, st, ma, ot, op, mc⟩ := x
  go_enter Try.func100, Try.ntmps100
  go_wp2_with (first | (go_at_call 121; refine (frmShort_any _ _).mono ?_; rintro e w' ⟨rfl, rfl⟩) | (go_at_call 165; refine (frmTagB_any _ _).mono ?_; rintro e w' ⟨rfl, rfl⟩) | (go_at_call 166; refine (frmLong_any _ _).mono ?_; rintro e w' ⟨rfl, rfl⟩) | (go_at_call 87; refine (frmIn_any _ _ _ _).mono ?_; rintro e w' ⟨rfl, rfl⟩))
  all_goals
    go_ret
    refine ⟨ret_bool ?_, ?_⟩
    · rw [Bool.eq_iff_iff]; simp only [fitsC, inB_iff, Bool.and_eq_true, decide_eq_true_eq, Bool.false_eq_true, false_iff] at *; omega
    repeat first | with_reducible exact Below.refl _ _ | with_reducible assumption | with_reducible refine Below.setCell ?_ (by simp <;> omega) _ | with_reducible refine Below.alloc ?_ (by simp <;> omega) _ | with_reducible refine Below.drew ?_
set_option maxRecDepth 100000 in
theorem wpList_idx {ops : Array Oper} {rest : List Oper} {o : Oper} {a : Act} {Q : Exit → Act → World → Prop} (w : World) (hgd : o.guard = none) (s x : Operand)
    (ho : o.op = .index 137 s x) {cs : Array Value} {j : Nat} {u : Int} (hs : a.eval s = .agg cs) (hx : a.eval x = .int .i64 j) (hj : j < 10) (hu : cs[j]? = some (.int .i64 u))
    (h : wpList Try.prog ops Q rest (a.put o.dst (.int .i64 u)) w) : wpList Try.prog ops Q (o :: rest) a w := by
  refine wpList_plain hgd fun K hK => ?_
  have hu1 := Try.underlying137
  have hr : (Instr.index 137 (.agg cs) (.int .i64 j)).run Try.prog w = .ok (.int .i64 u) w := by
    have h1 : (0 : Int) ≤ (j : Int) ∧ (j : Int) < ((10 : Nat) : Int) := by omega
    have h2 : (isAgg 3).run Try.prog w = .ok false w := by kernel_rfl
    have h3 : (sizeOf 3).run Try.prog w = .ok 1 w := by kernel_rfl
    simp only [Instr.index, asIntOf, Sem.run_bind, Sem.run_pure, Result.andThen_ok, run_underlying hu1, if_pos h1, h3, part, h2]
    simp [hu]
  unfold Oper.wp execOp
  simp only [ho, hs, hx, Sem.run_bind, hr, Sem.run_pure, Result.andThen_ok]
  exact hK _ _ h
theorem fields_bd {x : DAscCookie} (h : fitsC x = true) : ∀ n ∈ fieldsF x, 0 ≤ n ∧ n ≤ 4294967295 := by
  simp only [fitsC, inB_iff, Bool.and_eq_true] at h
  intro n hn
  simp only [fieldsF, List.mem_cons, List.not_mem_nil, or_false] at hn
  rcases hn with rfl | rfl | rfl | rfl | rfl | rfl | rfl | rfl | rfl | rfl <;> omega
theorem put4 {n : Int} (h : 0 ≤ n ∧ n ≤ 4294967295) : putF n 4 = be n.toNat 4 := putF_yes (by simp [topL2]; omega)
theorem mac_bd (s : Int) (x : DAscCookie) : 0 ≤ macF s x ∧ macF s x ≤ 4294967295 := by
  have := mix_bd (mixL (mixF 0 s) (fieldsF x)) s
  unfold macF
  omega
set_option maxRecDepth 100000 in
set_option maxHeartbeats 4000000 in
theorem implAscBake_n (s : Int) (x : DAscCookie) (w : World) : Calls Try.prog 36 #[.int .i64 s, .agg #[.int .i64 x.xMe, .int .i64 x.xPeer, .int .i64 x.xTag, .int .i64 x.xPeerTag, .int .i64 x.xTsn, .int .i64 x.xPeerTsn, .int .i64 x.xStreams, .int .i64 x.xMade, .int .i64 x.xOldTag, .int .i64 x.xOldPeerTag, .int .i64 x.xMac]] w fun e w' => ∃ v f, e = .returned v ∧ OwBy w' f v (bakeF s x) ∧ Nw w.heap.size w'.heap.size f ∧ Below w.heap.size w w' := by
  have HB := Lib.hid ((Below.refl w.heap.size w).alloc (Nat.le_refl _) (.cells #[.int .i64 x.xMe, .int .i64 x.xPeer, .int .i64 x.xTag, .int .i64 x.xPeerTag, .int .i64 x.xTsn, .int .i64 x.xPeerTsn, .int .i64 x.xStreams, .int .i64 x.xMade, .int .i64 x.xOldTag, .int .i64 x.xOldPeerTag, .int .i64 x.xMac] 49))
  have K := Lib.hid (Blk.new (w := w) (b := w.heap.size) #[.int .i64 x.xMe, .int .i64 x.xPeer, .int .i64 x.xTag, .int .i64 x.xPeerTag, .int .i64 x.xTsn, .int .i64 x.xPeerTsn, .int .i64 x.xStreams, .int .i64 x.xMade, .int .i64 x.xOldTag, .int .i64 x.xOldPeerTag, .int .i64 x.xMac] 49 rfl)
  have HM := Lib.hid (show bakeF s x = if fitsC x = true then numsF 4 (fieldsF x ++ [macF s x]) else [] from rfl)
  go_enter Try.func36, Try.ntmps36
  go_wp2_with fail
  refine (ascFits_any x _).mono ?_
  rintro e w1 ⟨rfl, b1⟩
  replace K := Lib.hid (K.out.keep b1)
  replace HB := Lib.hid (HB.out.trans (b1.mono HB.out.size))
  clear b1
  rcases hfit : fitsC x with _ | _
  · have Hr := Lib.hid (show bakeF s x = [] by rw [HM.out, hfit]; rfl)
    clear hfit HM
    go_wp2
    go_ret
    exact ⟨_, [], rfl, by rw [Hr.out]; exact OwBy.nil _, Nw.nil _ _, HB.out⟩
  have Hr := Lib.hid (show bakeF s x = numsF 4 (fieldsF x ++ [macF s x]) by rw [HM.out, hfit]; rfl)
  have Hbd := Lib.hid (fields_bd hfit)
  have Hmac := Lib.hid (implAscMac_r s x)
  have Hmb := Lib.hid (mac_bd s x)
  clear hfit HM
  have k0 := K.out.at (i := 0) rfl
  have k1 := K.out.at (i := 1) rfl
  have k2 := K.out.at (i := 2) rfl
  have k3 := K.out.at (i := 3) rfl
  have k4 := K.out.at (i := 4) rfl
  have k5 := K.out.at (i := 5) rfl
  have k6 := K.out.at (i := 6) rfl
  have k7 := K.out.at (i := 7) rfl
  have k8 := K.out.at (i := 8) rfl
  have k9 := K.out.at (i := 9) rfl
  have k10 := K.out.at (i := 10) rfl
  go_wp2_with fail
  refine (ascFields_r x _).mono ?_
  rintro e w2 ⟨rfl, b2⟩
  replace K := Lib.hid (K.out.keep b2)
  replace HB := Lib.hid (HB.out.trans (b2.mono HB.out.size))
  clear b2 k0 k1 k2 k3 k4 k5 k6 k7 k8 k9 k10
  go_wp2
  go_loopw [5, 13] (fun u i w3 => ∃ j : Nat, j ≤ 10 ∧ i = .int .i64 j ∧ OwB w3 (w.heap.size + 1) w3.heap.size u (numsF 4 ((fieldsF x).take j)) ∧ Blk w3 w.heap.size [.int .i64 x.xMe, .int .i64 x.xPeer, .int .i64 x.xTag, .int .i64 x.xPeerTag, .int .i64 x.xTsn, .int .i64 x.xPeerTsn, .int .i64 x.xStreams, .int .i64 x.xMade, .int .i64 x.xOldTag, .int .i64 x.xOldPeerTag, .int .i64 x.xMac] ∧ Below w.heap.size w w3) (fun _ i _ => 10 - (intOf i).toNat)
  case atStart => exact ⟨0, by omega, rfl, OwB.nil _ _ _, K.out, HB.out⟩
  case round =>
    clear K HB
    obtain ⟨j, hj, rfl, ho, hk, hb⟩ := hrel
    have Ho := Lib.hid ho
    have K := Lib.hid hk
    have HB := Lib.hid hb
    have hlt' := hk.lt
    have Hlen := Lib.hid (numsF_len 4 ((fieldsF x).take j))
    clear ho hk hb
    rcases Nat.lt_or_ge j 10 with hlt | hge
    · have HS := Lib.hid (numsF_succ (s := 4) (ns := fieldsF x) (j := j) hlt)
      have Hn := Lib.hid (Hbd.out (fieldsF x)[j] (List.getElem_mem hlt))
      have HP := Lib.hid (put4 Hn.out)
      have Hoct := Lib.hid (fun (n : Int) (hn : 0 ≤ n ∧ n ≤ 4294967295) => octAppend_int _ n 4 (w.heap.size + 1) wr.heap.size _ wr Ho.out hn ⟨by omega, by omega⟩ (by have h1 := Hlen.out; rw [List.length_take] at h1; have h2 : min j (fieldsF x).length ≤ j := Nat.min_le_left _ _; omega) (by omega) (Nat.le_refl _))
      have hidx := Lib.hid (show ((#[.int .i64 x.xMe, .int .i64 x.xPeer, .int .i64 x.xTag, .int .i64 x.xPeerTag, .int .i64 x.xTsn, .int .i64 x.xPeerTsn, .int .i64 x.xStreams, .int .i64 x.xMade, .int .i64 x.xOldTag, .int .i64 x.xOldPeerTag] : Array Value)[j]? = some (.int .i64 (fieldsF x)[j])) by
        rw [show (#[.int .i64 x.xMe, .int .i64 x.xPeer, .int .i64 x.xTag, .int .i64 x.xPeerTag, .int .i64 x.xTsn, .int .i64 x.xPeerTsn, .int .i64 x.xStreams, .int .i64 x.xMade, .int .i64 x.xOldTag, .int .i64 x.xOldPeerTag] : Array Value) = ((fieldsF x).map itv).toArray from rfl, List.getElem?_toArray, List.getElem?_map, List.getElem?_eq_getElem hlt]
        rfl)
      generalize (fieldsF x)[j] = fj at *
      go_wp2_with (refine wpList_idx _ rfl (.tmp 12) (.tmp 13) rfl rfl rfl hlt hidx.out ?_)
      refine (Hoct.out _ Hn.out).mono ?_
      rintro e w4 ⟨v4, rfl, o4, _, f4⟩
      have H4 := Lib.hid (show OwB w4 (w.heap.size + 1) w4.heap.size v4 _ from (HS.out.trans (congrArg _ HP.out)).symm ▸ o4)
      replace K := Lib.hid (show Blk w4 w.heap.size _ from ⟨Nat.lt_of_lt_of_le K.out.lt f4.size, fun i => (World.cell?_of_block (f4.block w.heap.size K.out.lt (.inl (by omega)))).trans (K.out.cell i), fun o => (World.frozen?_of_block (f4.block w.heap.size K.out.lt (.inl (by omega)))).trans (K.out.frozen o)⟩)
      replace HB := Lib.hid (HB.out.trans (f4.below (by omega) HB.out.size))
      clear o4 f4
      go_wp2
      exact ⟨⟨j + 1, by omega, by go_num, H4.out, K.out, HB.out⟩, by simp [intOf]; omega⟩
    · have : j = 10 := by omega
      subst this
      have ho := Ho.out
      rw [List.take_of_length_le (show (fieldsF x).length ≤ 10 from Nat.le_refl 10)] at ho
      replace Ho := Lib.hid ho
      clear ho
      have k0 := K.out.at (i := 0) rfl
      have k1 := K.out.at (i := 1) rfl
      have k2 := K.out.at (i := 2) rfl
      have k3 := K.out.at (i := 3) rfl
      have k4 := K.out.at (i := 4) rfl
      have k5 := K.out.at (i := 5) rfl
      have k6 := K.out.at (i := 6) rfl
      have k7 := K.out.at (i := 7) rfl
      have k8 := K.out.at (i := 8) rfl
      have k9 := K.out.at (i := 9) rfl
      have k10 := K.out.at (i := 10) rfl
      go_wp2_with fail
      refine (Hmac.out _).mono ?_
      rintro e w4 ⟨rfl, b4⟩
      replace Ho := Lib.hid (Ho.out.below b4 (Nat.le_refl _))
      replace HB := Lib.hid (HB.out.trans (b4.mono HB.out.size))
      have Hs4 := Lib.hid b4.size
      have Hlt := Lib.hid hlt'
      clear b4 k0 k1 k2 k3 k4 k5 k6 k7 k8 k9 k10 hlt'
      go_wp2_with fail
      refine (octAppend_int _ _ 4 (w.heap.size + 1) wr.heap.size _ w4 Ho.out Hmb.out ⟨by omega, by omega⟩ (by have := numsF_len 4 (fieldsF x); have h10 : (fieldsF x).length = 10 := rfl; omega) (by have := Hs4.out; have := Hlt.out; omega) Hs4.out).mono ?_
      rintro e w5 ⟨v5, rfl, o5, _, f5⟩
      have O5 := Lib.hid (show OwB w5 (w.heap.size + 1) w5.heap.size v5 (bakeF s x) by
        rw [Hr.out]
        unfold numsF
        rw [List.flatMap_append]
        simp only [List.flatMap_cons, List.flatMap_nil, List.append_nil, put4 Hmb.out]
        exact o5)
      replace HB := Lib.hid (HB.out.trans (f5.below (by omega) HB.out.size))
      clear o5 f5
      go_wp2
      go_ret
      exact ⟨_, _, rfl, O5.out.by_.1, O5.out.by_.2.mono (by omega) (Nat.le_refl _), HB.out⟩
end Go.Proofs.Ytbceikhmoblacaa
