/-
  What AscTick answers, as plain functions; and what an end says again. (Written by wip/tools/gentick.py.)
-/
import Derived.Test.YthdjjgbjemaabaaStartF
import Derived.Test.YthdjjgbjemaabaaFree
import Derived.Test.YthdjjgbjemaabaaApp0
namespace Go.Proofs.Ythdjjgbjemaabaa
open Go.ChangeShapes Go.WideShapes Go.ChangeAt Go.RowKit
set_option linter.unusedVariables false
set_option linter.unusedSimpArgs false

def echoC (x : DAscEnd) : DFrmChunk := { noChunk with xKind := 10, xBody := x.xCookie }
def ackC : DFrmChunk := { noChunk with xKind := 8 }
/-- What is said again. -/
def againF (x : DAscEnd) : List DFrmPacket :=
  if x.xState = 1 then frameF x 0 (firstC x) else if x.xState = 2 then frameF x x.xPeerTag (echoC x) else if x.xState = 4 then frameF x x.xPeerTag (shutC x.xPeerTsn) else frameF x x.xPeerTag ackC
def lessE (x : DAscEnd) : DAscEnd := { x with xLeft := x.xLeft - 1 }
def moreE (x : DAscEnd) : DAscEnd := { x with xTries := x.xTries + 1, xLeft := 3 }
def tickR (x : DAscEnd) : DAscEnd × List DFrmPacket × Int :=
  if ascOk x = true then
    if x.xLeft = 0 then (x, [], 0)
    else if 0 < x.xLeft - 1 then (lessE x, [], 0)
    else if x.xTries = 4 then (if x.xState ≤ 2 then (bareF x, [], 3) else (bareF x, [], 0))
    else (moreE x, againF (moreE x), 0)
  else (zeroEnd, [], 0)
def tickE (x : DAscEnd) : DAscEnd := (tickR x).1
def tickP (x : DAscEnd) : List DFrmPacket := (tickR x).2.1
def tickK (x : DAscEnd) : Int := (tickR x).2.2
theorem tick_n {x : DAscEnd} (h : ascOk x = false) : tickE x = zeroEnd ∧ tickP x = [] ∧ tickK x = 0 := by simp [tickE, tickP, tickK, tickR, h]
theorem tick_0 {x : DAscEnd} (h : ascOk x = true) (h1 : x.xLeft = 0) : tickE x = x ∧ tickP x = [] ∧ tickK x = 0 := by simp [tickE, tickP, tickK, tickR, h, h1]
theorem tick_l {x : DAscEnd} (h : ascOk x = true) (h1 : ¬ x.xLeft = 0) (h2 : 0 < x.xLeft - 1) : tickE x = lessE x ∧ tickP x = [] ∧ tickK x = 0 := by simp only [tickE, tickP, tickK, tickR, if_pos h, if_neg h1, if_pos h2, and_self]
theorem tick_g {x : DAscEnd} (h : ascOk x = true) (h1 : ¬ x.xLeft = 0) (h2 : ¬ 0 < x.xLeft - 1) (h3 : x.xTries = 4) (h4 : x.xState ≤ 2) : tickE x = bareF x ∧ tickP x = [] ∧ tickK x = 3 := by simp only [tickE, tickP, tickK, tickR, if_pos h, if_neg h1, if_neg h2, if_pos h3, if_pos h4, and_self]
theorem tick_q {x : DAscEnd} (h : ascOk x = true) (h1 : ¬ x.xLeft = 0) (h2 : ¬ 0 < x.xLeft - 1) (h3 : x.xTries = 4) (h4 : ¬ x.xState ≤ 2) : tickE x = bareF x ∧ tickP x = [] ∧ tickK x = 0 := by simp only [tickE, tickP, tickK, tickR, if_pos h, if_neg h1, if_neg h2, if_pos h3, if_neg h4, and_self]
theorem tick_a {x : DAscEnd} (h : ascOk x = true) (h1 : ¬ x.xLeft = 0) (h2 : ¬ 0 < x.xLeft - 1) (h3 : ¬ x.xTries = 4) : tickE x = moreE x ∧ tickP x = againF (moreE x) ∧ tickK x = 0 := by simp only [tickE, tickP, tickK, tickR, if_pos h, if_neg h1, if_neg h2, if_neg h3, and_self]
/-- An end that waits for an answer. -/
theorem ascOk_waits {x : DAscEnd} (h : ascOk x = true) (h1 : ¬ x.xLeft = 0) : (x.xState = 1 ∨ (x.xState = 2 ∧ 0 < x.xCookie.length ∧ x.xCookie.length ≤ 64) ∨ x.xState = 4 ∨ x.xState = 5) ∧ 0 ≤ x.xTries ∧ x.xTries ≤ 4 ∧ 1 ≤ x.xLeft ∧ x.xLeft ≤ 3 := by
  unfold ascOk ascOkA stA timedA at h
  simp only [Bool.and_eq_true, Bool.or_eq_true, decide_eq_true_eq, inB] at h
  omega
theorem ascOk_zero {x : DAscEnd} (h : ascOk x = true) (h1 : x.xLeft = 0) : x.xState = 0 ∨ x.xState = 3 := by
  unfold ascOk ascOkA stA timedA at h
  simp only [Bool.and_eq_true, Bool.or_eq_true, decide_eq_true_eq, inB] at h
  omega
theorem tickE_cookie (x : DAscEnd) : (tickE x).xCookie.length ≤ x.xCookie.length := by
  unfold tickE tickR; repeat' split
  all_goals simp [zeroEnd, bareF, lessE, moreE]
theorem frame_z2 (x : DAscEnd) (tag : Int) (c : DFrmChunk) : zL zFrmPacket (frameF x tag c) = 2 + zFrmChunk c := by
  simp [frameF, zL, szL, zFrmPacket]; omega

theorem ackC_e (w : World) : EFrmChunk w [] [.int .i64 8, .int .i64 0, .int .i64 0, .int .i64 0, .int .i64 0, .int .i64 0, .int .i64 0, .int .i64 0, .slice none 0 0, .slice none 0 0, .slice none 0 0] ackC :=
  ⟨_, _, _, [], [], [], rfl, OwL.nil _, ⟨⟨by simp [ackC, noChunk], .inl ⟨rfl, rfl⟩⟩, rfl⟩, ⟨⟨by simp [ackC, noChunk], .inl ⟨rfl, rfl⟩⟩, rfl⟩, rfl⟩
theorem echoC_e {w : World} {x : DAscEnd} {f : List Nat} {v : Value} (h : OwBy w f v x.xCookie) : EFrmChunk w f [.int .i64 10, .int .i64 0, .int .i64 0, .int .i64 0, .int .i64 0, .int .i64 0, .int .i64 0, .int .i64 0, .slice none 0 0, .slice none 0 0, v] (echoC x) :=
  ⟨_, _, _, [], [], f, rfl, OwL.nil _, ⟨⟨by simp [echoC, noChunk], .inl ⟨rfl, rfl⟩⟩, rfl⟩, h, rfl⟩
set_option maxRecDepth 100000 in
/-- append of bytes onto a list literal without elements. -/
theorem run_app0B (w : World) (ty : TypeId) (b : Nat) {u : Value} {ys : List UInt8} (hrd : RdB w u ys) (hpos : 0 < ys.length) (hlen : ys.length ≤ 1048576) :
    ∃ v' w', (Builtin.append_ #[22, 22] ty #[.slice (some ⟨b, 0, none⟩) 0 0, u]).run Try.prog w = .ok v' w' ∧ OwBy w' [w.heap.size] v' ys ∧ Nw w.heap.size w'.heap.size [w.heap.size] ∧ Below w.heap.size w w' := by
  obtain ⟨i0, hi0, hz0, hz1, hz2⟩ := info_parts info_byte
  have ht := Try.underlying22
  obtain ⟨A, c, rfl, _, hc⟩ := hrd
  have hsrc : Src Try.prog i0.size 22 (.slice A ys.length c) ys.length (ys.map byt) w := by
    rw [hz1]
    rcases A with _ | ad
    · have hy : ys = [] := by
        rcases ys with _ | ⟨y, ys⟩
        · rfl
        · obtain ⟨_, h, _⟩ := hc 0 y rfl; cases h
      subst hy
      exact absurd hpos (by simp)
    · refine Src.ofSlice w ht ad ys.length c (ys.map byt) (by simp) (fun j z hz => ?_) (byt_one ys)
      rw [List.getElem?_map] at hz
      obtain ⟨y, hy, rfl⟩ := Option.map_eq_some_iff.1 hz
      obtain ⟨ad', h, hcell⟩ := hc j y hy
      injection h with h
      subst h
      exact hcell
  have h1 := run_append_grow_src w 22 22 ty 5 i0 (.int .u8 0) ht hi0 hz0 (some ⟨b, 0, none⟩) 0 0 [] (run_firstCells_some w.drew i0.size 0 ⟨b, 0, none⟩ 0 0 [] (by simp) (by simp)) _ _ _ hsrc (by omega) (by omega)
    (by rw [Nat.zero_add, nextslicecap_zero (by omega), hz2]; omega)
  rw [Nat.zero_add, List.nil_append] at h1
  have hge := grownCap_ge w ys.length 0 5
  have hcm : grownCap w ys.length 0 5 ≤ maxLen := grownCap_le_maxLen w ys.length 0 5 (by simp only [maxLen]; omega)
  refine ⟨_, _, h1, ⟨⟨by simp, .inr ⟨w.heap.size, _, _, rfl, Nat.zero_le _, heap_alloc_new w.drew _, hge, hcm, ?_, ?_⟩⟩, by simp [Value.ownBlock]⟩, ⟨by simp, by simp⟩, ((Below.refl _ _).drew).alloc (Nat.le_refl _) _⟩
  · simp only [Array.size_append, List.size_toArray, size_zeroCells, List.length_map, Value.cells]
    simp
    omega
  · simp only [Array.toList_append]
    rw [List.take_append_of_le_length (by simp), List.take_of_length_le (by simp)]

set_option maxRecDepth 100000 in
set_option maxHeartbeats 1000000 in
theorem ascShutAck_n (x : DAscEnd) (vk : Value) (w : World) : Calls Try.prog 306 #[.agg #[.int .i64 x.xMe, .int .i64 x.xPeer, .int .i64 x.xSecret, .int .i64 x.xWish, .int .i64 x.xLast, .int .i64 x.xState, .int .i64 x.xTag, .int .i64 x.xPeerTag, .int .i64 x.xTsn, .int .i64 x.xPeerTsn, .int .i64 x.xStreams, vk, .int .i64 x.xTries, .int .i64 x.xLeft]] w fun e w' => ∃ v' f, e = .returned v' ∧ OwFrmPacketS w' f v' (frameF x x.xPeerTag ackC) ∧ Nw w.heap.size w'.heap.size f ∧ Below w.heap.size w w' := by
  have HB := Lib.hid ((Below.refl w.heap.size w).alloc (Nat.le_refl _) (.cells #[.int .i64 x.xMe, .int .i64 x.xPeer, .int .i64 x.xSecret, .int .i64 x.xWish, .int .i64 x.xLast, .int .i64 x.xState, .int .i64 x.xTag, .int .i64 x.xPeerTag, .int .i64 x.xTsn, .int .i64 x.xPeerTsn, .int .i64 x.xStreams, vk, .int .i64 x.xTries, .int .i64 x.xLeft] 67))
  have K := Lib.hid (Blk.new (w := w) (b := w.heap.size) #[.int .i64 x.xMe, .int .i64 x.xPeer, .int .i64 x.xSecret, .int .i64 x.xWish, .int .i64 x.xLast, .int .i64 x.xState, .int .i64 x.xTag, .int .i64 x.xPeerTag, .int .i64 x.xTsn, .int .i64 x.xPeerTsn, .int .i64 x.xStreams, vk, .int .i64 x.xTries, .int .i64 x.xLeft] 67 rfl)
  have k7 := K.out.at (i := 7) rfl
  go_enter Try.func306, Try.ntmps306
  go_wp2_with (refine wpList_load_blk rfl 67 (.tmp 1) rfl K.out rfl _ Try.underlying67 rfl isz_AscEnd ?_)
  refine (ascFrame_n x vk x.xPeerTag [.int .i64 8, .int .i64 0, .int .i64 0, .int .i64 0, .int .i64 0, .int .i64 0, .int .i64 0, .int .i64 0, .slice none 0 0, .slice none 0 0, .slice none 0 0] (ackC) [] _ w.heap.size (ackC_e _) (Nw.nil _ _) HB.out.size).mono ?_
  rintro e w1 ⟨v', f, rfl, o1, n1, b1⟩
  have O1 := Lib.hid o1
  have N1 := Lib.hid n1
  replace HB := Lib.hid (HB.out.trans (b1.mono HB.out.size))
  clear o1 n1 b1 K k7
  go_wp2
  go_ret
  exact ⟨_, _, rfl, O1.out, N1.out, HB.out⟩

set_option maxRecDepth 100000 in
set_option maxHeartbeats 1000000 in
theorem l6Again_4 (x : DAscEnd) (vk : Value) (w : World) (hs : x.xState = 4) : Calls Try.prog 163 #[.agg #[.int .i64 x.xMe, .int .i64 x.xPeer, .int .i64 x.xSecret, .int .i64 x.xWish, .int .i64 x.xLast, .int .i64 x.xState, .int .i64 x.xTag, .int .i64 x.xPeerTag, .int .i64 x.xTsn, .int .i64 x.xPeerTsn, .int .i64 x.xStreams, vk, .int .i64 x.xTries, .int .i64 x.xLeft]] w fun e w' => ∃ v' f, e = .returned v' ∧ OwFrmPacketS w' f v' (frameF x x.xPeerTag (shutC x.xPeerTsn)) ∧ Nw w.heap.size w'.heap.size f ∧ Below w.heap.size w w' := by
  have HB := Lib.hid ((Below.refl w.heap.size w).alloc (Nat.le_refl _) (.cells #[.int .i64 x.xMe, .int .i64 x.xPeer, .int .i64 x.xSecret, .int .i64 x.xWish, .int .i64 x.xLast, .int .i64 x.xState, .int .i64 x.xTag, .int .i64 x.xPeerTag, .int .i64 x.xTsn, .int .i64 x.xPeerTsn, .int .i64 x.xStreams, vk, .int .i64 x.xTries, .int .i64 x.xLeft] 67))
  have K := Lib.hid (Blk.new (w := w) (b := w.heap.size) #[.int .i64 x.xMe, .int .i64 x.xPeer, .int .i64 x.xSecret, .int .i64 x.xWish, .int .i64 x.xLast, .int .i64 x.xState, .int .i64 x.xTag, .int .i64 x.xPeerTag, .int .i64 x.xTsn, .int .i64 x.xPeerTsn, .int .i64 x.xStreams, vk, .int .i64 x.xTries, .int .i64 x.xLeft] 67 rfl)
  have k5 := K.out.at (i := 5) rfl
  have k7 := K.out.at (i := 7) rfl
  have k9 := K.out.at (i := 9) rfl
  have q1 : (x.xState == 1) = false := by rw [hs]; rfl
  have q2 : (x.xState == 2) = false := by rw [hs]; rfl
  have q4 : (x.xState == 4) = true := by rw [hs]; rfl
  clear hs
  go_enter Try.func163, Try.ntmps163
  go_wp2_with (refine wpList_load_blk rfl 67 (.tmp 1) rfl K.out rfl _ Try.underlying67 rfl isz_AscEnd ?_)
  refine (l6Frame_n x vk x.xPeerTag [.int .i64 7, .int .i64 0, .int .i64 0, .int .i64 x.xPeerTsn, .int .i64 0, .int .i64 0, .int .i64 0, .int .i64 0, .slice none 0 0, .slice none 0 0, .slice none 0 0] (shutC x.xPeerTsn) [] _ w.heap.size (shutC_e _ _) (Nw.nil _ _) HB.out.size).mono ?_
  rintro e w1 ⟨v', f, rfl, o1, n1, b1⟩
  have O1 := Lib.hid o1
  have N1 := Lib.hid n1
  replace HB := Lib.hid (HB.out.trans (b1.mono HB.out.size))
  clear o1 n1 b1 K k5 k7 k9
  go_wp2
  go_ret
  exact ⟨_, _, rfl, O1.out, N1.out, HB.out⟩

set_option maxRecDepth 100000 in
set_option maxHeartbeats 1000000 in
theorem l6Again_5 (x : DAscEnd) (vk : Value) (w : World) (hs : x.xState = 5) : Calls Try.prog 163 #[.agg #[.int .i64 x.xMe, .int .i64 x.xPeer, .int .i64 x.xSecret, .int .i64 x.xWish, .int .i64 x.xLast, .int .i64 x.xState, .int .i64 x.xTag, .int .i64 x.xPeerTag, .int .i64 x.xTsn, .int .i64 x.xPeerTsn, .int .i64 x.xStreams, vk, .int .i64 x.xTries, .int .i64 x.xLeft]] w fun e w' => ∃ v' f, e = .returned v' ∧ OwFrmPacketS w' f v' (frameF x x.xPeerTag ackC) ∧ Nw w.heap.size w'.heap.size f ∧ Below w.heap.size w w' := by
  have HB := Lib.hid ((Below.refl w.heap.size w).alloc (Nat.le_refl _) (.cells #[.int .i64 x.xMe, .int .i64 x.xPeer, .int .i64 x.xSecret, .int .i64 x.xWish, .int .i64 x.xLast, .int .i64 x.xState, .int .i64 x.xTag, .int .i64 x.xPeerTag, .int .i64 x.xTsn, .int .i64 x.xPeerTsn, .int .i64 x.xStreams, vk, .int .i64 x.xTries, .int .i64 x.xLeft] 67))
  have K := Lib.hid (Blk.new (w := w) (b := w.heap.size) #[.int .i64 x.xMe, .int .i64 x.xPeer, .int .i64 x.xSecret, .int .i64 x.xWish, .int .i64 x.xLast, .int .i64 x.xState, .int .i64 x.xTag, .int .i64 x.xPeerTag, .int .i64 x.xTsn, .int .i64 x.xPeerTsn, .int .i64 x.xStreams, vk, .int .i64 x.xTries, .int .i64 x.xLeft] 67 rfl)
  have k5 := K.out.at (i := 5) rfl
  have k7 := K.out.at (i := 7) rfl
  have q1 : (x.xState == 1) = false := by rw [hs]; rfl
  have q2 : (x.xState == 2) = false := by rw [hs]; rfl
  have q4 : (x.xState == 4) = false := by rw [hs]; rfl
  clear hs
  go_enter Try.func163, Try.ntmps163
  go_wp2_with (refine wpList_load_blk rfl 67 (.tmp 1) rfl K.out rfl _ Try.underlying67 rfl isz_AscEnd ?_)
  refine (l6Frame_n x vk x.xPeerTag [.int .i64 8, .int .i64 0, .int .i64 0, .int .i64 0, .int .i64 0, .int .i64 0, .int .i64 0, .int .i64 0, .slice none 0 0, .slice none 0 0, .slice none 0 0] (ackC) [] _ w.heap.size (ackC_e _) (Nw.nil _ _) HB.out.size).mono ?_
  rintro e w1 ⟨v', f, rfl, o1, n1, b1⟩
  have O1 := Lib.hid o1
  have N1 := Lib.hid n1
  replace HB := Lib.hid (HB.out.trans (b1.mono HB.out.size))
  clear o1 n1 b1 K k5 k7
  go_wp2
  go_ret
  exact ⟨_, _, rfl, O1.out, N1.out, HB.out⟩

set_option maxRecDepth 100000 in
set_option maxHeartbeats 1000000 in
theorem l6Again_1 (x : DAscEnd) (vk : Value) (w : World) (hs : x.xState = 1) : Calls Try.prog 163 #[.agg #[.int .i64 x.xMe, .int .i64 x.xPeer, .int .i64 x.xSecret, .int .i64 x.xWish, .int .i64 x.xLast, .int .i64 x.xState, .int .i64 x.xTag, .int .i64 x.xPeerTag, .int .i64 x.xTsn, .int .i64 x.xPeerTsn, .int .i64 x.xStreams, vk, .int .i64 x.xTries, .int .i64 x.xLeft]] w fun e w' => ∃ v' f, e = .returned v' ∧ OwFrmPacketS w' f v' (frameF x 0 (firstC x)) ∧ Nw w.heap.size w'.heap.size f ∧ Below w.heap.size w w' := by
  have HB := Lib.hid ((Below.refl w.heap.size w).alloc (Nat.le_refl _) (.cells #[.int .i64 x.xMe, .int .i64 x.xPeer, .int .i64 x.xSecret, .int .i64 x.xWish, .int .i64 x.xLast, .int .i64 x.xState, .int .i64 x.xTag, .int .i64 x.xPeerTag, .int .i64 x.xTsn, .int .i64 x.xPeerTsn, .int .i64 x.xStreams, vk, .int .i64 x.xTries, .int .i64 x.xLeft] 67))
  have K := Lib.hid (Blk.new (w := w) (b := w.heap.size) #[.int .i64 x.xMe, .int .i64 x.xPeer, .int .i64 x.xSecret, .int .i64 x.xWish, .int .i64 x.xLast, .int .i64 x.xState, .int .i64 x.xTag, .int .i64 x.xPeerTag, .int .i64 x.xTsn, .int .i64 x.xPeerTsn, .int .i64 x.xStreams, vk, .int .i64 x.xTries, .int .i64 x.xLeft] 67 rfl)
  have k5 := K.out.at (i := 5) rfl
  have q1 : (x.xState == 1) = true := by rw [hs]; rfl
  clear hs
  go_enter Try.func163, Try.ntmps163
  go_wp2_with (refine wpList_load_blk rfl 67 (.tmp 1) rfl K.out rfl _ Try.underlying67 rfl isz_AscEnd ?_)
  refine (l6First_n x vk _).mono ?_
  rintro e w1 ⟨v', f, rfl, o1, n1, b1⟩
  have O1 := Lib.hid o1
  have N1 := Lib.hid (n1.mono (lo' := w.heap.size) HB.out.size (Nat.le_refl _))
  replace HB := Lib.hid (HB.out.trans (b1.mono HB.out.size))
  clear o1 n1 b1 K k5
  go_wp2
  go_ret
  exact ⟨_, _, rfl, O1.out, N1.out, HB.out⟩

set_option maxRecDepth 100000 in
set_option maxHeartbeats 2000000 in
theorem l6Again_2 (x : DAscEnd) (vk : Value) (w : World) (hs : x.xState = 2) (hv : RdB w vk x.xCookie) (hpos : 0 < x.xCookie.length) (hlen : x.xCookie.length ≤ 1048576) : Calls Try.prog 163 #[.agg #[.int .i64 x.xMe, .int .i64 x.xPeer, .int .i64 x.xSecret, .int .i64 x.xWish, .int .i64 x.xLast, .int .i64 x.xState, .int .i64 x.xTag, .int .i64 x.xPeerTag, .int .i64 x.xTsn, .int .i64 x.xPeerTsn, .int .i64 x.xStreams, vk, .int .i64 x.xTries, .int .i64 x.xLeft]] w fun e w' => ∃ v' f, e = .returned v' ∧ OwFrmPacketS w' f v' (frameF x x.xPeerTag (echoC x)) ∧ Nw w.heap.size w'.heap.size f ∧ Below w.heap.size w w' := by
  have HB := Lib.hid ((Below.refl w.heap.size w).alloc (Nat.le_refl _) (.cells #[.int .i64 x.xMe, .int .i64 x.xPeer, .int .i64 x.xSecret, .int .i64 x.xWish, .int .i64 x.xLast, .int .i64 x.xState, .int .i64 x.xTag, .int .i64 x.xPeerTag, .int .i64 x.xTsn, .int .i64 x.xPeerTsn, .int .i64 x.xStreams, vk, .int .i64 x.xTries, .int .i64 x.xLeft] 67))
  have K := Lib.hid (Blk.new (w := w) (b := w.heap.size) #[.int .i64 x.xMe, .int .i64 x.xPeer, .int .i64 x.xSecret, .int .i64 x.xWish, .int .i64 x.xLast, .int .i64 x.xState, .int .i64 x.xTag, .int .i64 x.xPeerTag, .int .i64 x.xTsn, .int .i64 x.xPeerTsn, .int .i64 x.xStreams, vk, .int .i64 x.xTries, .int .i64 x.xLeft] 67 rfl)
  have HV := Lib.hid (hv.below HB.out)
  have Hpos := Lib.hid hpos
  have Hlen := Lib.hid hlen
  clear hv hpos hlen
  have k5 := K.out.at (i := 5) rfl
  have q1 : (x.xState == 1) = false := by rw [hs]; rfl
  have q2 : (x.xState == 2) = true := by rw [hs]; rfl
  clear hs
  go_enter Try.func163, Try.ntmps163
  go_wp2_with fail
  clear k5 q1 q2
  have HB0 := Lib.hid HB.out.size
  generalize World.alloc w _ = w2 at *
  refine wp_region_free 8 (fun y => Below w2.heap.size w2 y) (fun vals i v y f => match i with | 0 => v = .agg #[.int .i64 x.xMe, .int .i64 x.xPeer, .int .i64 x.xSecret, .int .i64 x.xWish, .int .i64 x.xLast, .int .i64 x.xState, .int .i64 x.xTag, .int .i64 x.xPeerTag, .int .i64 x.xTsn, .int .i64 x.xPeerTsn, .int .i64 x.xStreams, vk, .int .i64 x.xTries, .int .i64 x.xLeft] ∧ f = [] | 1 => v = .pointer (some ⟨w.heap.size, 7, none⟩) ∧ f = [] | 2 => v = .int .i64 x.xPeerTag ∧ f = [] | 3 => ∃ b, v = .slice (some ⟨b, 0, none⟩) 0 0 | 4 => v = .pointer (some ⟨w.heap.size, 11, none⟩) ∧ f = [] | 5 => v = vk ∧ f = [] | 6 => OwBy y f v x.xCookie ∧ f.Nodup | 7 => ∃ u, v = .agg #[.int .i64 10, .int .i64 0, .int .i64 0, .int .i64 0, .int .i64 0, .int .i64 0, .int .i64 0, .int .i64 0, .slice none 0 0, .slice none 0 0, u] ∧ OwBy y f u x.xCookie | _ => False) (fun i => if i = 7 then 6 else i) (by kernel_rfl) (by kernel_rfl) ?_ ?_ (Below.refl _ _).drew ?_ ?_
  · intro _ i v y y' f h hb
    match i, h with
    | 0, h => exact h
    | 1, h => exact h
    | 2, h => exact h
    | 3, h => exact h
    | 4, h => exact h
    | 5, h => exact h
    | 6, h => exact ⟨OwBy.below h.1 hb, h.2⟩
    | 7, h => (obtain ⟨u, h1, h2⟩ := h; exact ⟨u, h1, OwBy.below h2 hb⟩)
  · intro vals vals' i o v y f ho hd h
    match i, h with
    | 0, h => exact h
    | 1, h => exact h
    | 2, h => exact h
    | 3, h => exact h
    | 4, h => exact h
    | 5, h => exact h
    | 6, h => exact h
    | 7, h => exact h
  · intro vals
    simp only [List.take_succ_cons, List.take_zero, Steps]
    refine ⟨?_, ?_, ?_, ?_, ?_, ?_, ?_, ?_, trivial⟩
    · intro y fp0 hS hd
      try simp only [Act.put, List.setIfInBounds_toArray, List.set_cons_zero, List.set_cons_succ]
      exact FreeUpon.pure (.agg #[.int .i64 x.xMe, .int .i64 x.xPeer, .int .i64 x.xSecret, .int .i64 x.xWish, .int .i64 x.xLast, .int .i64 x.xState, .int .i64 x.xTag, .int .i64 x.xPeerTag, .int .i64 x.xTsn, .int .i64 x.xPeerTsn, .int .i64 x.xStreams, vk, .int .i64 x.xTries, .int .i64 x.xLeft]) (exec_load_blk 67 (.tmp 1) rfl (K.out.keep hS) rfl _ Try.underlying67 rfl isz_AscEnd) ⟨rfl, rfl⟩ hS
    · intro y fp0 hS hd
      try simp only [Act.put, List.setIfInBounds_toArray, List.set_cons_zero, List.set_cons_succ]
      refine FreeUpon.pure (.pointer (some ⟨w.heap.size, 7, none⟩)) ?_ ⟨rfl, rfl⟩ hS
      go_simp
    · intro y fp0 hS hd
      try simp only [Act.put, List.setIfInBounds_toArray, List.set_cons_zero, List.set_cons_succ]
      obtain ⟨⟨hp1, _⟩, _⟩ := hd { on := 1, ground := Ground.data } (by simp) (by kernel_rfl)
      simp only at hp1
      have kk := (K.out.keep hS).at (i := 7) rfl
      refine FreeUpon.pure (.int .i64 x.xPeerTag) ?_ ⟨rfl, rfl⟩ hS
      go_simp
    · intro y fp0 hS hd
      try simp only [Act.put, List.setIfInBounds_toArray, List.set_cons_zero, List.set_cons_succ]
      refine FreeUpon.val (u := .slice (some ⟨y.heap.size, 0, none⟩) 0 0) (w' := y.alloc (.cells #[] 5)) (f := []) ?_ ⟨_, rfl⟩ (Nw.nil _ _) ((Below.refl _ _).alloc (Nat.le_refl _) _) (hS.alloc hS.size _)
      go_simp
    · intro y fp0 hS hd
      try simp only [Act.put, List.setIfInBounds_toArray, List.set_cons_zero, List.set_cons_succ]
      refine FreeUpon.pure (.pointer (some ⟨w.heap.size, 11, none⟩)) ?_ ⟨rfl, rfl⟩ hS
      go_simp
    · intro y fp0 hS hd
      try simp only [Act.put, List.setIfInBounds_toArray, List.set_cons_zero, List.set_cons_succ]
      obtain ⟨⟨hp4, _⟩, _⟩ := hd { on := 4, ground := Ground.data } (by simp) (by kernel_rfl)
      simp only at hp4
      have kk := (K.out.keep hS).at (i := 11) rfl
      refine FreeUpon.pure (vk) ?_ ⟨rfl, rfl⟩ hS
      go_simp
    · intro y fp0 hS hd
      try simp only [Act.put, List.setIfInBounds_toArray, List.set_cons_zero, List.set_cons_succ]
      obtain ⟨⟨b, hp⟩, _⟩ := hd { on := 3, ground := Ground.data } (by simp) (by kernel_rfl)
      obtain ⟨⟨hp2, _⟩, _⟩ := hd { on := 5, ground := Ground.data } (by simp) (by kernel_rfl)
      simp only at hp hp2
      obtain ⟨v', y', hrun, ho, hnw, hbb⟩ := run_app0B y 22 b (HV.out.below hS) Hpos.out Hlen.out
      refine FreeUpon.val (u := v') (w' := y') (f := [y.heap.size]) ?_ ⟨ho, hnw.1⟩ hnw hbb (hS.trans (hbb.mono hS.size))
      simp [execOp, resolve, invoke, builtin, Act.eval, hp, hp2, hrun]
    · intro y fp0 hS hd
      try simp only [Act.put, List.setIfInBounds_toArray, List.set_cons_zero, List.set_cons_succ]
      obtain ⟨⟨h6, hnd⟩, hlt⟩ := hd { on := 6, ground := Ground.data } (by simp) (by kernel_rfl)
      simp only at h6 hlt hnd
      refine FreeUpon.took (u := .agg #[.int .i64 10, .int .i64 0, .int .i64 0, .int .i64 0, .int .i64 0, .int .i64 0, .int .i64 0, .int .i64 0, .slice none 0 0, .slice none 0 0, (vals 6)]) (w' := y) (f := fp0 6) ?_ ⟨_, rfl, h6⟩ ⟨hnd, fun c hc => ⟨hlt c hc, .inr ⟨{ on := 6, ground := Ground.data }, by simp, by kernel_rfl, rfl, hc⟩⟩⟩ (Below.refl _ _) hS
      obtain ⟨B6, d6, hv6⟩ := h6.rd.slice
      rw [hv6]
      go_simp
  · intro vals fp y hS hb hf
    have Hf := Lib.hid hf
    clear hf hb
    have e0 : vals 0 = .agg #[.int .i64 x.xMe, .int .i64 x.xPeer, .int .i64 x.xSecret, .int .i64 x.xWish, .int .i64 x.xLast, .int .i64 x.xState, .int .i64 x.xTag, .int .i64 x.xPeerTag, .int .i64 x.xTsn, .int .i64 x.xPeerTsn, .int .i64 x.xStreams, vk, .int .i64 x.xTries, .int .i64 x.xLeft] := (Hf.out.1 0 (by omega) rfl).1.1
    have e1 : vals 1 = .pointer (some ⟨w.heap.size, 7, none⟩) := (Hf.out.1 1 (by omega) rfl).1.1
    have e2 : vals 2 = .int .i64 x.xPeerTag := (Hf.out.1 2 (by omega) rfl).1.1
    have e4 : vals 4 = .pointer (some ⟨w.heap.size, 11, none⟩) := (Hf.out.1 4 (by omega) rfl).1.1
    have e5 : vals 5 = vk := (Hf.out.1 5 (by omega) rfl).1.1
    have e0 : vals 0 = .agg #[.int .i64 x.xMe, .int .i64 x.xPeer, .int .i64 x.xSecret, .int .i64 x.xWish, .int .i64 x.xLast, .int .i64 x.xState, .int .i64 x.xTag, .int .i64 x.xPeerTag, .int .i64 x.xTsn, .int .i64 x.xPeerTsn, .int .i64 x.xStreams, vk, .int .i64 x.xTries, .int .i64 x.xLeft] := (Hf.out.1 0 (by omega) rfl).1.1
    have e2 : vals 2 = .int .i64 x.xPeerTag := (Hf.out.1 2 (by omega) rfl).1.1
    obtain ⟨u7, e7, o7⟩ : ∃ u, vals 7 = .agg #[.int .i64 10, .int .i64 0, .int .i64 0, .int .i64 0, .int .i64 0, .int .i64 0, .int .i64 0, .int .i64 0, .slice none 0 0, .slice none 0 0, u] ∧ OwBy y (fp 7) u x.xCookie := (Hf.out.1 7 (by omega) rfl).1
    have n7 : Nw w2.heap.size y.heap.size (fp 7) := (Hf.out.1 7 (by omega) rfl).2
    have O7 := Lib.hid o7
    have N7 := Lib.hid n7
    have ZS := Lib.hid hS.size
    replace HB := Lib.hid (HB.out.trans (hS.mono HB.out.size))
    have Z0 := Lib.hid (show w.heap.size ≤ w2.heap.size from HB0.out)
    simp only [List.take_succ_cons, List.take_zero, List.drop_succ_cons, List.drop_zero, putAll, Act.put, List.setIfInBounds_toArray, List.set_cons_zero, List.set_cons_succ, e0, e2, e7]
    clear hS Hf o7 n7 e0 e2 e7 K
    go_wp2_with fail
    refine (l6Frame_n x vk x.xPeerTag [.int .i64 10, .int .i64 0, .int .i64 0, .int .i64 0, .int .i64 0, .int .i64 0, .int .i64 0, .int .i64 0, .slice none 0 0, .slice none 0 0, u7] (echoC x) (fp 7) y w2.heap.size (echoC_e O7.out) N7.out ZS.out).mono ?_
    rintro e w5 ⟨v', f, rfl, o8, n8, b8⟩
    have O8 := Lib.hid o8
    have N8 := Lib.hid (n8.mono (lo' := w.heap.size) Z0.out (Nat.le_refl _))
    replace HB := Lib.hid (HB.out.trans (b8.mono HB.out.size))
    clear o8 n8 b8
    go_wp2
    go_ret
    exact ⟨_, _, rfl, O8.out, N8.out, HB.out⟩

theorem l6Again_n (x : DAscEnd) (vk : Value) (w : World) (hs : x.xState = 1 ∨ (x.xState = 2 ∧ 0 < x.xCookie.length ∧ x.xCookie.length ≤ 64) ∨ x.xState = 4 ∨ x.xState = 5) (hv : RdB w vk x.xCookie) : Calls Try.prog 163 #[.agg #[.int .i64 x.xMe, .int .i64 x.xPeer, .int .i64 x.xSecret, .int .i64 x.xWish, .int .i64 x.xLast, .int .i64 x.xState, .int .i64 x.xTag, .int .i64 x.xPeerTag, .int .i64 x.xTsn, .int .i64 x.xPeerTsn, .int .i64 x.xStreams, vk, .int .i64 x.xTries, .int .i64 x.xLeft]] w fun e w' => ∃ v' f, e = .returned v' ∧ OwFrmPacketS w' f v' (againF x) ∧ Nw w.heap.size w'.heap.size f ∧ Below w.heap.size w w' := by
  rcases hs with h | ⟨h, h1, h2⟩ | h | h
  · have e : againF x = frameF x 0 (firstC x) := by simp [againF, h]
    rw [e]; exact l6Again_1 x vk w h
  · have e : againF x = frameF x x.xPeerTag (echoC x) := by simp [againF, h]
    rw [e]; exact l6Again_2 x vk w h hv h1 (by omega)
  · have e : againF x = frameF x x.xPeerTag (shutC x.xPeerTsn) := by simp [againF, h]
    rw [e]; exact l6Again_4 x vk w h
  · have e : againF x = frameF x x.xPeerTag ackC := by simp [againF, h]
    rw [e]; exact l6Again_5 x vk w h
end Go.Proofs.Ythdjjgbjemaabaa
