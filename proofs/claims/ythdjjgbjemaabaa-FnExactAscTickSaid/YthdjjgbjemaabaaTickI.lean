/-
  AscTick of the program. (Written by wip/tools/gentick.py.)
-/
import Derived.Test.YthdjjgbjemaabaaTickG
import Derived.Test.YthdjjgbjemaabaaCopy
namespace Go.Proofs.Ythdjjgbjemaabaa
open Go.ChangeShapes Go.WideShapes Go.ChangeAt Go.RowKit
set_option linter.unusedVariables false
set_option linter.unusedSimpArgs false

set_option maxRecDepth 100000 in
set_option maxHeartbeats 2000000 in
theorem ascEcho_n (x : DAscEnd) (vk : Value) (w : World) (hv : RdB w vk x.xCookie) (hlen : x.xCookie.length ≤ 1048576) : Calls Try.prog 300 #[.agg #[.int .i64 x.xMe, .int .i64 x.xPeer, .int .i64 x.xSecret, .int .i64 x.xWish, .int .i64 x.xLast, .int .i64 x.xState, .int .i64 x.xTag, .int .i64 x.xPeerTag, .int .i64 x.xTsn, .int .i64 x.xPeerTsn, .int .i64 x.xStreams, vk, .int .i64 x.xTries, .int .i64 x.xLeft]] w fun e w' => ∃ v' f, e = .returned v' ∧ OwFrmPacketS w' f v' (frameF x x.xPeerTag (echoC x)) ∧ Nw w.heap.size w'.heap.size f ∧ Below w.heap.size w w' := by
  have HB := Lib.hid ((Below.refl w.heap.size w).alloc (Nat.le_refl _) (.cells #[.int .i64 x.xMe, .int .i64 x.xPeer, .int .i64 x.xSecret, .int .i64 x.xWish, .int .i64 x.xLast, .int .i64 x.xState, .int .i64 x.xTag, .int .i64 x.xPeerTag, .int .i64 x.xTsn, .int .i64 x.xPeerTsn, .int .i64 x.xStreams, vk, .int .i64 x.xTries, .int .i64 x.xLeft] 67))
  have K := Lib.hid (Blk.new (w := w) (b := w.heap.size) #[.int .i64 x.xMe, .int .i64 x.xPeer, .int .i64 x.xSecret, .int .i64 x.xWish, .int .i64 x.xLast, .int .i64 x.xState, .int .i64 x.xTag, .int .i64 x.xPeerTag, .int .i64 x.xTsn, .int .i64 x.xPeerTsn, .int .i64 x.xStreams, vk, .int .i64 x.xTries, .int .i64 x.xLeft] 67 rfl)
  have HV := Lib.hid (hv.below HB.out)
  have Hlen := Lib.hid hlen
  clear hv hlen
  go_enter Try.func300, Try.ntmps300
  go_wp2_with fail
  have HB0 := Lib.hid HB.out.size
  generalize World.alloc w _ = w2 at *
  refine wp_region_free 7 (fun y => Below w2.heap.size w2 y) (fun vals i v y f => match i with | 0 => v = .agg #[.int .i64 x.xMe, .int .i64 x.xPeer, .int .i64 x.xSecret, .int .i64 x.xWish, .int .i64 x.xLast, .int .i64 x.xState, .int .i64 x.xTag, .int .i64 x.xPeerTag, .int .i64 x.xTsn, .int .i64 x.xPeerTsn, .int .i64 x.xStreams, vk, .int .i64 x.xTries, .int .i64 x.xLeft] ∧ f = [] | 1 => v = .pointer (some ⟨w.heap.size, 7, none⟩) ∧ f = [] | 2 => v = .int .i64 x.xPeerTag ∧ f = [] | 3 => v = .pointer (some ⟨w.heap.size, 11, none⟩) ∧ f = [] | 4 => v = vk ∧ f = [] | 5 => OwBy y f v x.xCookie ∧ f.Nodup | 6 => ∃ u, v = .agg #[.int .i64 10, .int .i64 0, .int .i64 0, .int .i64 0, .int .i64 0, .int .i64 0, .int .i64 0, .int .i64 0, .slice none 0 0, .slice none 0 0, u] ∧ OwBy y f u x.xCookie | _ => False) (fun i => if i = 6 then 5 else i) (by kernel_rfl) (by kernel_rfl) ?_ ?_ (Below.refl _ _).drew ?_ ?_
  · intro _ i v y y' f h hb
    match i, h with
    | 0, h => exact h
    | 1, h => exact h
    | 2, h => exact h
    | 3, h => exact h
    | 4, h => exact h
    | 5, h => exact ⟨OwBy.below h.1 hb, h.2⟩
    | 6, h => (obtain ⟨u, h1, h2⟩ := h; exact ⟨u, h1, OwBy.below h2 hb⟩)
  · intro vals vals' i o v y f ho hd h
    match i, h with
    | 0, h => exact h
    | 1, h => exact h
    | 2, h => exact h
    | 3, h => exact h
    | 4, h => exact h
    | 5, h => exact h
    | 6, h => exact h
  · intro vals
    simp only [List.take_succ_cons, List.take_zero, Steps]
    refine ⟨?_, ?_, ?_, ?_, ?_, ?_, ?_, trivial⟩
    · intro y fp0 hS hd
      try simp only [Act.put, List.setIfInBounds_toArray, List.set_cons_zero, List.set_cons_succ]
      exact FreeUpon.pure (.agg #[.int .i64 x.xMe, .int .i64 x.xPeer, .int .i64 x.xSecret, .int .i64 x.xWish, .int .i64 x.xLast, .int .i64 x.xState, .int .i64 x.xTag, .int .i64 x.xPeerTag, .int .i64 x.xTsn, .int .i64 x.xPeerTsn, .int .i64 x.xStreams, vk, .int .i64 x.xTries, .int .i64 x.xLeft]) (exec_load_blk 67 (.tmp 1) rfl (K.out.keep hS) rfl _ Try.underlying67 rfl isz_AscEnd) ⟨rfl, rfl⟩ hS
    · intro y fp0 hS hd
      try simp only [Act.put, List.setIfInBounds_toArray, List.set_cons_zero, List.set_cons_succ]
      refine FreeUpon.pure (.pointer (some ⟨w.heap.size, 7, none⟩)) ?_ ⟨rfl, rfl⟩ hS
      go_simp
    · intro y fp0 hS hd
      try simp only [Act.put, List.setIfInBounds_toArray, List.set_cons_zero, List.set_cons_succ]
      obtain ⟨⟨hp1, _⟩, _⟩ := hd { on := 1, ground := Ground.data } (by simp) (by kernel_rfl)
      simp only at hp1
      have kk := (K.out.keep hS).at (i := 7) rfl
      refine FreeUpon.pure (.int .i64 x.xPeerTag) ?_ ⟨rfl, rfl⟩ hS
      go_simp
    · intro y fp0 hS hd
      try simp only [Act.put, List.setIfInBounds_toArray, List.set_cons_zero, List.set_cons_succ]
      refine FreeUpon.pure (.pointer (some ⟨w.heap.size, 11, none⟩)) ?_ ⟨rfl, rfl⟩ hS
      go_simp
    · intro y fp0 hS hd
      try simp only [Act.put, List.setIfInBounds_toArray, List.set_cons_zero, List.set_cons_succ]
      obtain ⟨⟨hp3, _⟩, _⟩ := hd { on := 3, ground := Ground.data } (by simp) (by kernel_rfl)
      simp only at hp3
      have kk := (K.out.keep hS).at (i := 11) rfl
      refine FreeUpon.pure (vk) ?_ ⟨rfl, rfl⟩ hS
      go_simp
    · intro y fp0 hS hd
      try simp only [Act.put, List.setIfInBounds_toArray, List.set_cons_zero, List.set_cons_succ]
      obtain ⟨⟨hp4, _⟩, _⟩ := hd { on := 4, ground := Ground.data } (by simp) (by kernel_rfl)
      simp only at hp4
      refine FreeUpon.call (g := 238) (args := #[vk]) ?_ ((ascOwn_n vk x.xCookie y (HV.out.below hS) Hlen.out).mono fun e y' ⟨v', f', he, h1, h2, h3⟩ => ⟨v', f', he, ⟨h1, h2.1⟩, h2, h3, hS.trans (h3.mono hS.size)⟩)
      go_simp
    · intro y fp0 hS hd
      try simp only [Act.put, List.setIfInBounds_toArray, List.set_cons_zero, List.set_cons_succ]
      obtain ⟨⟨h6, hnd⟩, hlt⟩ := hd { on := 5, ground := Ground.data } (by simp) (by kernel_rfl)
      simp only at h6 hlt hnd
      refine FreeUpon.took (u := .agg #[.int .i64 10, .int .i64 0, .int .i64 0, .int .i64 0, .int .i64 0, .int .i64 0, .int .i64 0, .int .i64 0, .slice none 0 0, .slice none 0 0, (vals 5)]) (w' := y) (f := fp0 5) ?_ ⟨_, rfl, h6⟩ ⟨hnd, fun c hc => ⟨hlt c hc, .inr ⟨{ on := 5, ground := Ground.data }, by simp, by kernel_rfl, rfl, hc⟩⟩⟩ (Below.refl _ _) hS
      obtain ⟨B6, d6, hv6⟩ := h6.rd.slice
      rw [hv6]
      go_simp
  · intro vals fp y hS hb hf
    have Hf := Lib.hid hf
    clear hf hb
    have e0 : vals 0 = .agg #[.int .i64 x.xMe, .int .i64 x.xPeer, .int .i64 x.xSecret, .int .i64 x.xWish, .int .i64 x.xLast, .int .i64 x.xState, .int .i64 x.xTag, .int .i64 x.xPeerTag, .int .i64 x.xTsn, .int .i64 x.xPeerTsn, .int .i64 x.xStreams, vk, .int .i64 x.xTries, .int .i64 x.xLeft] := (Hf.out.1 0 (by omega) rfl).1.1
    have e1 : vals 1 = .pointer (some ⟨w.heap.size, 7, none⟩) := (Hf.out.1 1 (by omega) rfl).1.1
    have e2 : vals 2 = .int .i64 x.xPeerTag := (Hf.out.1 2 (by omega) rfl).1.1
    have e3 : vals 3 = .pointer (some ⟨w.heap.size, 11, none⟩) := (Hf.out.1 3 (by omega) rfl).1.1
    have e4 : vals 4 = vk := (Hf.out.1 4 (by omega) rfl).1.1
    have e0 : vals 0 = .agg #[.int .i64 x.xMe, .int .i64 x.xPeer, .int .i64 x.xSecret, .int .i64 x.xWish, .int .i64 x.xLast, .int .i64 x.xState, .int .i64 x.xTag, .int .i64 x.xPeerTag, .int .i64 x.xTsn, .int .i64 x.xPeerTsn, .int .i64 x.xStreams, vk, .int .i64 x.xTries, .int .i64 x.xLeft] := (Hf.out.1 0 (by omega) rfl).1.1
    have e2 : vals 2 = .int .i64 x.xPeerTag := (Hf.out.1 2 (by omega) rfl).1.1
    obtain ⟨u7, e7, o7⟩ : ∃ u, vals 6 = .agg #[.int .i64 10, .int .i64 0, .int .i64 0, .int .i64 0, .int .i64 0, .int .i64 0, .int .i64 0, .int .i64 0, .slice none 0 0, .slice none 0 0, u] ∧ OwBy y (fp 6) u x.xCookie := (Hf.out.1 6 (by omega) rfl).1
    have n7 : Nw w2.heap.size y.heap.size (fp 6) := (Hf.out.1 6 (by omega) rfl).2
    have O7 := Lib.hid o7
    have N7 := Lib.hid n7
    have ZS := Lib.hid hS.size
    replace HB := Lib.hid (HB.out.trans (hS.mono HB.out.size))
    have Z0 := Lib.hid (show w.heap.size ≤ w2.heap.size from HB0.out)
    simp only [List.take_succ_cons, List.take_zero, List.drop_succ_cons, List.drop_zero, putAll, Act.put, List.setIfInBounds_toArray, List.set_cons_zero, List.set_cons_succ, e0, e2, e7]
    clear hS Hf o7 n7 e0 e2 e7 K
    go_wp2_with fail
    refine (ascFrame_n x vk x.xPeerTag [.int .i64 10, .int .i64 0, .int .i64 0, .int .i64 0, .int .i64 0, .int .i64 0, .int .i64 0, .int .i64 0, .slice none 0 0, .slice none 0 0, u7] (echoC x) (fp 6) y w2.heap.size (echoC_e O7.out) N7.out ZS.out).mono ?_
    rintro e w5 ⟨v', f, rfl, o8, n8, b8⟩
    have O8 := Lib.hid o8
    have N8 := Lib.hid (n8.mono (lo' := w.heap.size) Z0.out (Nat.le_refl _))
    replace HB := Lib.hid (HB.out.trans (b8.mono HB.out.size))
    clear o8 n8 b8
    go_wp2
    go_ret
    exact ⟨_, _, rfl, O8.out, N8.out, HB.out⟩

set_option maxRecDepth 100000 in
set_option maxHeartbeats 1000000 in
theorem gives_1 (x : DAscEnd) (B : Option Addr) (q d : Nat) (w : World) (hs : x.xState = 1) : Calls Try.prog 242 #[.agg #[.int .i64 x.xMe, .int .i64 x.xPeer, .int .i64 x.xSecret, .int .i64 x.xWish, .int .i64 x.xLast, .int .i64 x.xState, .int .i64 x.xTag, .int .i64 x.xPeerTag, .int .i64 x.xTsn, .int .i64 x.xPeerTsn, .int .i64 x.xStreams, .slice B q d, .int .i64 x.xTries, .int .i64 x.xLeft]] w fun e w' => ∃ B1 q1 d1 f, e = .returned (.iface 320 (.agg #[.int .i64 (bareF x).xMe, .int .i64 (bareF x).xPeer, .int .i64 (bareF x).xSecret, .int .i64 (bareF x).xWish, .int .i64 (bareF x).xLast, .int .i64 (bareF x).xState, .int .i64 (bareF x).xTag, .int .i64 (bareF x).xPeerTag, .int .i64 (bareF x).xTsn, .int .i64 (bareF x).xPeerTsn, .int .i64 (bareF x).xStreams, .slice B1 q1 d1, .int .i64 (bareF x).xTries, .int .i64 (bareF x).xLeft, .slice none 0 0])) ∧ OwBy w' f (.slice B1 q1 d1) [] ∧ Nw w.heap.size w'.heap.size f ∧ Below w.heap.size w w' := by
  have HB := Lib.hid ((Below.refl w.heap.size w).alloc (Nat.le_refl _) (.cells #[.int .i64 x.xMe, .int .i64 x.xPeer, .int .i64 x.xSecret, .int .i64 x.xWish, .int .i64 x.xLast, .int .i64 x.xState, .int .i64 x.xTag, .int .i64 x.xPeerTag, .int .i64 x.xTsn, .int .i64 x.xPeerTsn, .int .i64 x.xStreams, .slice B q d, .int .i64 x.xTries, .int .i64 x.xLeft] 67))
  have K := Lib.hid (Blk.new (w := w) (b := w.heap.size) #[.int .i64 x.xMe, .int .i64 x.xPeer, .int .i64 x.xSecret, .int .i64 x.xWish, .int .i64 x.xLast, .int .i64 x.xState, .int .i64 x.xTag, .int .i64 x.xPeerTag, .int .i64 x.xTsn, .int .i64 x.xPeerTsn, .int .i64 x.xStreams, .slice B q d, .int .i64 x.xTries, .int .i64 x.xLeft] 67 rfl)
  have q1 : (x.xState == 1) = true := by rw [hs]; rfl
  clear hs
  go_enter Try.func242, Try.ntmps242
  go_wp2_with (refine wpList_load_blk rfl 67 (.tmp 1) rfl K.out rfl _ Try.underlying67 rfl isz_AscEnd ?_)
  refine (ascBare_n x (.slice B q d) _).mono ?_
  rintro e w1 ⟨c1, g1, rfl, E1, n1, b1⟩
  obtain ⟨v1, g1', rfl, p1, hg1⟩ := E1
  obtain rfl := hg1
  obtain ⟨B1, d1, rfl⟩ := p1.rd.slice
  have P1 := Lib.hid p1
  have N1 := Lib.hid (n1.mono (lo' := w.heap.size) HB.out.size (Nat.le_refl _))
  replace HB := Lib.hid (HB.out.trans (b1.mono HB.out.size))
  clear p1 n1 b1 K
  go_wp2_with fail
  refine (ascStays_n (bareF x) B1 (bareF x).xCookie.length d1 _).mono ?_
  rintro e w2 ⟨rfl, b2⟩
  replace P1 := Lib.hid (P1.out.below b2)
  replace N1 := Lib.hid (N1.out.mono (Nat.le_refl _) b2.size)
  replace HB := Lib.hid (HB.out.trans (b2.mono HB.out.size))
  clear b2
  go_wp2
  go_ret
  exact ⟨_, _, _, _, rfl, P1.out, N1.out, HB.out⟩

set_option maxRecDepth 100000 in
set_option maxHeartbeats 1000000 in
theorem gives_2 (x : DAscEnd) (B : Option Addr) (q d : Nat) (w : World) (hs : x.xState = 2) : Calls Try.prog 242 #[.agg #[.int .i64 x.xMe, .int .i64 x.xPeer, .int .i64 x.xSecret, .int .i64 x.xWish, .int .i64 x.xLast, .int .i64 x.xState, .int .i64 x.xTag, .int .i64 x.xPeerTag, .int .i64 x.xTsn, .int .i64 x.xPeerTsn, .int .i64 x.xStreams, .slice B q d, .int .i64 x.xTries, .int .i64 x.xLeft]] w fun e w' => ∃ B1 q1 d1 f, e = .returned (.iface 320 (.agg #[.int .i64 (bareF x).xMe, .int .i64 (bareF x).xPeer, .int .i64 (bareF x).xSecret, .int .i64 (bareF x).xWish, .int .i64 (bareF x).xLast, .int .i64 (bareF x).xState, .int .i64 (bareF x).xTag, .int .i64 (bareF x).xPeerTag, .int .i64 (bareF x).xTsn, .int .i64 (bareF x).xPeerTsn, .int .i64 (bareF x).xStreams, .slice B1 q1 d1, .int .i64 (bareF x).xTries, .int .i64 (bareF x).xLeft, .slice none 0 0])) ∧ OwBy w' f (.slice B1 q1 d1) [] ∧ Nw w.heap.size w'.heap.size f ∧ Below w.heap.size w w' := by
  have HB := Lib.hid ((Below.refl w.heap.size w).alloc (Nat.le_refl _) (.cells #[.int .i64 x.xMe, .int .i64 x.xPeer, .int .i64 x.xSecret, .int .i64 x.xWish, .int .i64 x.xLast, .int .i64 x.xState, .int .i64 x.xTag, .int .i64 x.xPeerTag, .int .i64 x.xTsn, .int .i64 x.xPeerTsn, .int .i64 x.xStreams, .slice B q d, .int .i64 x.xTries, .int .i64 x.xLeft] 67))
  have K := Lib.hid (Blk.new (w := w) (b := w.heap.size) #[.int .i64 x.xMe, .int .i64 x.xPeer, .int .i64 x.xSecret, .int .i64 x.xWish, .int .i64 x.xLast, .int .i64 x.xState, .int .i64 x.xTag, .int .i64 x.xPeerTag, .int .i64 x.xTsn, .int .i64 x.xPeerTsn, .int .i64 x.xStreams, .slice B q d, .int .i64 x.xTries, .int .i64 x.xLeft] 67 rfl)
  have q1 : (x.xState == 1) = false := by rw [hs]; rfl
  have q2 : (x.xState == 2) = true := by rw [hs]; rfl
  clear hs
  go_enter Try.func242, Try.ntmps242
  go_wp2_with (refine wpList_load_blk rfl 67 (.tmp 1) rfl K.out rfl _ Try.underlying67 rfl isz_AscEnd ?_)
  refine (ascBare_n x (.slice B q d) _).mono ?_
  rintro e w1 ⟨c1, g1, rfl, E1, n1, b1⟩
  obtain ⟨v1, g1', rfl, p1, hg1⟩ := E1
  obtain rfl := hg1
  obtain ⟨B1, d1, rfl⟩ := p1.rd.slice
  have P1 := Lib.hid p1
  have N1 := Lib.hid (n1.mono (lo' := w.heap.size) HB.out.size (Nat.le_refl _))
  replace HB := Lib.hid (HB.out.trans (b1.mono HB.out.size))
  clear p1 n1 b1 K
  go_wp2_with fail
  refine (ascStays_n (bareF x) B1 (bareF x).xCookie.length d1 _).mono ?_
  rintro e w2 ⟨rfl, b2⟩
  replace P1 := Lib.hid (P1.out.below b2)
  replace N1 := Lib.hid (N1.out.mono (Nat.le_refl _) b2.size)
  replace HB := Lib.hid (HB.out.trans (b2.mono HB.out.size))
  clear b2
  go_wp2
  go_ret
  exact ⟨_, _, _, _, rfl, P1.out, N1.out, HB.out⟩

set_option maxRecDepth 100000 in
set_option maxHeartbeats 1000000 in
theorem gives_5 (x : DAscEnd) (B : Option Addr) (q d : Nat) (w : World) (hs : 2 < x.xState) : Calls Try.prog 242 #[.agg #[.int .i64 x.xMe, .int .i64 x.xPeer, .int .i64 x.xSecret, .int .i64 x.xWish, .int .i64 x.xLast, .int .i64 x.xState, .int .i64 x.xTag, .int .i64 x.xPeerTag, .int .i64 x.xTsn, .int .i64 x.xPeerTsn, .int .i64 x.xStreams, .slice B q d, .int .i64 x.xTries, .int .i64 x.xLeft]] w fun e w' => ∃ B1 q1 d1 f, e = .returned (.iface 268 (.agg #[.int .i64 (bareF x).xMe, .int .i64 (bareF x).xPeer, .int .i64 (bareF x).xSecret, .int .i64 (bareF x).xWish, .int .i64 (bareF x).xLast, .int .i64 (bareF x).xState, .int .i64 (bareF x).xTag, .int .i64 (bareF x).xPeerTag, .int .i64 (bareF x).xTsn, .int .i64 (bareF x).xPeerTsn, .int .i64 (bareF x).xStreams, .slice B1 q1 d1, .int .i64 (bareF x).xTries, .int .i64 (bareF x).xLeft, .slice none 0 0])) ∧ OwBy w' f (.slice B1 q1 d1) [] ∧ Nw w.heap.size w'.heap.size f ∧ Below w.heap.size w w' := by
  have HB := Lib.hid ((Below.refl w.heap.size w).alloc (Nat.le_refl _) (.cells #[.int .i64 x.xMe, .int .i64 x.xPeer, .int .i64 x.xSecret, .int .i64 x.xWish, .int .i64 x.xLast, .int .i64 x.xState, .int .i64 x.xTag, .int .i64 x.xPeerTag, .int .i64 x.xTsn, .int .i64 x.xPeerTsn, .int .i64 x.xStreams, .slice B q d, .int .i64 x.xTries, .int .i64 x.xLeft] 67))
  have K := Lib.hid (Blk.new (w := w) (b := w.heap.size) #[.int .i64 x.xMe, .int .i64 x.xPeer, .int .i64 x.xSecret, .int .i64 x.xWish, .int .i64 x.xLast, .int .i64 x.xState, .int .i64 x.xTag, .int .i64 x.xPeerTag, .int .i64 x.xTsn, .int .i64 x.xPeerTsn, .int .i64 x.xStreams, .slice B q d, .int .i64 x.xTries, .int .i64 x.xLeft] 67 rfl)
  have q1 : (x.xState == 1) = false := by simp; omega
  have q2 : (x.xState == 2) = false := by simp; omega
  clear hs
  go_enter Try.func242, Try.ntmps242
  go_wp2_with (refine wpList_load_blk rfl 67 (.tmp 1) rfl K.out rfl _ Try.underlying67 rfl isz_AscEnd ?_)
  refine (ascBare_n x (.slice B q d) _).mono ?_
  rintro e w1 ⟨c1, g1, rfl, E1, n1, b1⟩
  obtain ⟨v1, g1', rfl, p1, hg1⟩ := E1
  obtain rfl := hg1
  obtain ⟨B1, d1, rfl⟩ := p1.rd.slice
  have P1 := Lib.hid p1
  have N1 := Lib.hid (n1.mono (lo' := w.heap.size) HB.out.size (Nat.le_refl _))
  replace HB := Lib.hid (HB.out.trans (b1.mono HB.out.size))
  clear p1 n1 b1 K
  go_wp2_with fail
  refine (ascStays_n (bareF x) B1 (bareF x).xCookie.length d1 _).mono ?_
  rintro e w2 ⟨rfl, b2⟩
  replace P1 := Lib.hid (P1.out.below b2)
  replace N1 := Lib.hid (N1.out.mono (Nat.le_refl _) b2.size)
  replace HB := Lib.hid (HB.out.trans (b2.mono HB.out.size))
  clear b2
  go_wp2
  go_ret
  exact ⟨_, _, _, _, rfl, P1.out, N1.out, HB.out⟩

set_option maxRecDepth 100000 in
set_option maxHeartbeats 1000000 in
theorem ascTick_0 (x : DAscEnd) (B : Option Addr) (q d : Nat) (w : World) (h0 : x.xLeft = 0) : Calls Try.prog 165 #[.agg #[.int .i64 x.xMe, .int .i64 x.xPeer, .int .i64 x.xSecret, .int .i64 x.xWish, .int .i64 x.xLast, .int .i64 x.xState, .int .i64 x.xTag, .int .i64 x.xPeerTag, .int .i64 x.xTsn, .int .i64 x.xPeerTsn, .int .i64 x.xStreams, .slice B q d, .int .i64 x.xTries, .int .i64 x.xLeft]] w fun e w' => e = .returned (.iface 268 (.agg #[.int .i64 x.xMe, .int .i64 x.xPeer, .int .i64 x.xSecret, .int .i64 x.xWish, .int .i64 x.xLast, .int .i64 x.xState, .int .i64 x.xTag, .int .i64 x.xPeerTag, .int .i64 x.xTsn, .int .i64 x.xPeerTsn, .int .i64 x.xStreams, .slice B q d, .int .i64 x.xTries, .int .i64 x.xLeft, .slice none 0 0])) ∧ Below w.heap.size w w' := by
  have q0 : (x.xLeft == 0) = true := by rw [h0]; rfl
  clear h0
  have HB := Lib.hid ((Below.refl w.heap.size w).alloc (Nat.le_refl _) (.cells #[.int .i64 x.xMe, .int .i64 x.xPeer, .int .i64 x.xSecret, .int .i64 x.xWish, .int .i64 x.xLast, .int .i64 x.xState, .int .i64 x.xTag, .int .i64 x.xPeerTag, .int .i64 x.xTsn, .int .i64 x.xPeerTsn, .int .i64 x.xStreams, .slice B q d, .int .i64 x.xTries, .int .i64 x.xLeft] 67))
  have K := Lib.hid (Blk.new (w := w) (b := w.heap.size) #[.int .i64 x.xMe, .int .i64 x.xPeer, .int .i64 x.xSecret, .int .i64 x.xWish, .int .i64 x.xLast, .int .i64 x.xState, .int .i64 x.xTag, .int .i64 x.xPeerTag, .int .i64 x.xTsn, .int .i64 x.xPeerTsn, .int .i64 x.xStreams, .slice B q d, .int .i64 x.xTries, .int .i64 x.xLeft] 67 rfl)
  go_enter Try.func165, Try.ntmps165
  go_wp2_with (refine wpList_load_blk rfl 67 (.tmp 1) rfl K.out rfl _ Try.underlying67 rfl isz_AscEnd ?_)
  refine (ascStays_n { x with xLeft := x.xLeft } B q d _).mono ?_
  rintro e w1 ⟨rfl, b1⟩
  replace HB := Lib.hid (HB.out.trans (b1.mono HB.out.size))
  clear b1 K
  go_wp2
  go_ret
  exact ⟨rfl, HB.out⟩

set_option maxRecDepth 100000 in
set_option maxHeartbeats 1000000 in
theorem ascTick_l (x : DAscEnd) (B : Option Addr) (q d : Nat) (w : World) (h0 : ¬ x.xLeft = 0) (h1 : 0 < x.xLeft - 1) (h3 : x.xLeft ≤ 3) : Calls Try.prog 165 #[.agg #[.int .i64 x.xMe, .int .i64 x.xPeer, .int .i64 x.xSecret, .int .i64 x.xWish, .int .i64 x.xLast, .int .i64 x.xState, .int .i64 x.xTag, .int .i64 x.xPeerTag, .int .i64 x.xTsn, .int .i64 x.xPeerTsn, .int .i64 x.xStreams, .slice B q d, .int .i64 x.xTries, .int .i64 x.xLeft]] w fun e w' => e = .returned (.iface 268 (.agg #[.int .i64 x.xMe, .int .i64 x.xPeer, .int .i64 x.xSecret, .int .i64 x.xWish, .int .i64 x.xLast, .int .i64 x.xState, .int .i64 x.xTag, .int .i64 x.xPeerTag, .int .i64 x.xTsn, .int .i64 x.xPeerTsn, .int .i64 x.xStreams, .slice B q d, .int .i64 x.xTries, .int .i64 (x.xLeft - 1), .slice none 0 0])) ∧ Below w.heap.size w w' := by
  have q0 : (x.xLeft == 0) = false := by simpa using h0
  clear h0
  have HB := Lib.hid ((Below.refl w.heap.size w).alloc (Nat.le_refl _) (.cells #[.int .i64 x.xMe, .int .i64 x.xPeer, .int .i64 x.xSecret, .int .i64 x.xWish, .int .i64 x.xLast, .int .i64 x.xState, .int .i64 x.xTag, .int .i64 x.xPeerTag, .int .i64 x.xTsn, .int .i64 x.xPeerTsn, .int .i64 x.xStreams, .slice B q d, .int .i64 x.xTries, .int .i64 (x.xLeft - 1)] 67))
  have K := Lib.hid (Blk.new (w := w) (b := w.heap.size) #[.int .i64 x.xMe, .int .i64 x.xPeer, .int .i64 x.xSecret, .int .i64 x.xWish, .int .i64 x.xLast, .int .i64 x.xState, .int .i64 x.xTag, .int .i64 x.xPeerTag, .int .i64 x.xTsn, .int .i64 x.xPeerTsn, .int .i64 x.xStreams, .slice B q d, .int .i64 x.xTries, .int .i64 (x.xLeft - 1)] 67 rfl)
  go_enter Try.func165, Try.ntmps165
  go_wp2_with (refine wpList_load_blk rfl 67 (.tmp 1) rfl K.out rfl _ Try.underlying67 rfl isz_AscEnd ?_)
  refine (ascStays_n { x with xLeft := x.xLeft - 1 } B q d _).mono ?_
  rintro e w1 ⟨rfl, b1⟩
  replace HB := Lib.hid (HB.out.trans (b1.mono HB.out.size))
  clear b1 K
  go_wp2
  go_ret
  exact ⟨rfl, HB.out⟩

set_option maxRecDepth 100000 in
set_option maxHeartbeats 1000000 in
theorem ascTick_g1 (x : DAscEnd) (B : Option Addr) (q d : Nat) (w : World) (hs : x.xState = 1) (h0 : ¬ x.xLeft = 0) (h1 : ¬ 0 < x.xLeft - 1) (h3 : 1 ≤ x.xLeft) (h4 : x.xTries = 4) : Calls Try.prog 165 #[.agg #[.int .i64 x.xMe, .int .i64 x.xPeer, .int .i64 x.xSecret, .int .i64 x.xWish, .int .i64 x.xLast, .int .i64 x.xState, .int .i64 x.xTag, .int .i64 x.xPeerTag, .int .i64 x.xTsn, .int .i64 x.xPeerTsn, .int .i64 x.xStreams, .slice B q d, .int .i64 x.xTries, .int .i64 x.xLeft]] w fun e w' => ∃ B1 q1 d1 f, e = .returned (.iface 320 (.agg #[.int .i64 (bareF x).xMe, .int .i64 (bareF x).xPeer, .int .i64 (bareF x).xSecret, .int .i64 (bareF x).xWish, .int .i64 (bareF x).xLast, .int .i64 (bareF x).xState, .int .i64 (bareF x).xTag, .int .i64 (bareF x).xPeerTag, .int .i64 (bareF x).xTsn, .int .i64 (bareF x).xPeerTsn, .int .i64 (bareF x).xStreams, .slice B1 q1 d1, .int .i64 (bareF x).xTries, .int .i64 (bareF x).xLeft, .slice none 0 0])) ∧ OwBy w' f (.slice B1 q1 d1) [] ∧ Nw w.heap.size w'.heap.size f ∧ Below w.heap.size w w' := by
  have Hs := Lib.hid hs
  have q0 : (x.xLeft == 0) = false := by simpa using h0
  have q4 : (x.xTries == 4) = true := by rw [h4]; rfl
  clear h0 h4 hs
  have HB := Lib.hid ((Below.refl w.heap.size w).alloc (Nat.le_refl _) (.cells #[.int .i64 x.xMe, .int .i64 x.xPeer, .int .i64 x.xSecret, .int .i64 x.xWish, .int .i64 x.xLast, .int .i64 x.xState, .int .i64 x.xTag, .int .i64 x.xPeerTag, .int .i64 x.xTsn, .int .i64 x.xPeerTsn, .int .i64 x.xStreams, .slice B q d, .int .i64 x.xTries, .int .i64 (x.xLeft - 1)] 67))
  have K := Lib.hid (Blk.new (w := w) (b := w.heap.size) #[.int .i64 x.xMe, .int .i64 x.xPeer, .int .i64 x.xSecret, .int .i64 x.xWish, .int .i64 x.xLast, .int .i64 x.xState, .int .i64 x.xTag, .int .i64 x.xPeerTag, .int .i64 x.xTsn, .int .i64 x.xPeerTsn, .int .i64 x.xStreams, .slice B q d, .int .i64 x.xTries, .int .i64 (x.xLeft - 1)] 67 rfl)
  go_enter Try.func165, Try.ntmps165
  go_wp2_with (refine wpList_load_blk rfl 67 (.tmp 1) rfl K.out rfl _ Try.underlying67 rfl isz_AscEnd ?_)
  refine (gives_1 (lessE x) B q d _ Hs.out).mono ?_
  rintro e w1 ⟨B1, q1, d1, f, rfl, p1, n1, b1⟩
  have P1 := Lib.hid p1
  have N1 := Lib.hid (n1.mono (lo' := w.heap.size) HB.out.size (Nat.le_refl _))
  replace HB := Lib.hid (HB.out.trans (b1.mono HB.out.size))
  clear b1 K p1 n1
  go_wp2
  go_ret
  exact ⟨_, _, _, _, rfl, P1.out, N1.out, HB.out⟩

set_option maxRecDepth 100000 in
set_option maxHeartbeats 1000000 in
theorem ascTick_g2 (x : DAscEnd) (B : Option Addr) (q d : Nat) (w : World) (hs : x.xState = 2) (h0 : ¬ x.xLeft = 0) (h1 : ¬ 0 < x.xLeft - 1) (h3 : 1 ≤ x.xLeft) (h4 : x.xTries = 4) : Calls Try.prog 165 #[.agg #[.int .i64 x.xMe, .int .i64 x.xPeer, .int .i64 x.xSecret, .int .i64 x.xWish, .int .i64 x.xLast, .int .i64 x.xState, .int .i64 x.xTag, .int .i64 x.xPeerTag, .int .i64 x.xTsn, .int .i64 x.xPeerTsn, .int .i64 x.xStreams, .slice B q d, .int .i64 x.xTries, .int .i64 x.xLeft]] w fun e w' => ∃ B1 q1 d1 f, e = .returned (.iface 320 (.agg #[.int .i64 (bareF x).xMe, .int .i64 (bareF x).xPeer, .int .i64 (bareF x).xSecret, .int .i64 (bareF x).xWish, .int .i64 (bareF x).xLast, .int .i64 (bareF x).xState, .int .i64 (bareF x).xTag, .int .i64 (bareF x).xPeerTag, .int .i64 (bareF x).xTsn, .int .i64 (bareF x).xPeerTsn, .int .i64 (bareF x).xStreams, .slice B1 q1 d1, .int .i64 (bareF x).xTries, .int .i64 (bareF x).xLeft, .slice none 0 0])) ∧ OwBy w' f (.slice B1 q1 d1) [] ∧ Nw w.heap.size w'.heap.size f ∧ Below w.heap.size w w' := by
  have Hs := Lib.hid hs
  have q0 : (x.xLeft == 0) = false := by simpa using h0
  have q4 : (x.xTries == 4) = true := by rw [h4]; rfl
  clear h0 h4 hs
  have HB := Lib.hid ((Below.refl w.heap.size w).alloc (Nat.le_refl _) (.cells #[.int .i64 x.xMe, .int .i64 x.xPeer, .int .i64 x.xSecret, .int .i64 x.xWish, .int .i64 x.xLast, .int .i64 x.xState, .int .i64 x.xTag, .int .i64 x.xPeerTag, .int .i64 x.xTsn, .int .i64 x.xPeerTsn, .int .i64 x.xStreams, .slice B q d, .int .i64 x.xTries, .int .i64 (x.xLeft - 1)] 67))
  have K := Lib.hid (Blk.new (w := w) (b := w.heap.size) #[.int .i64 x.xMe, .int .i64 x.xPeer, .int .i64 x.xSecret, .int .i64 x.xWish, .int .i64 x.xLast, .int .i64 x.xState, .int .i64 x.xTag, .int .i64 x.xPeerTag, .int .i64 x.xTsn, .int .i64 x.xPeerTsn, .int .i64 x.xStreams, .slice B q d, .int .i64 x.xTries, .int .i64 (x.xLeft - 1)] 67 rfl)
  go_enter Try.func165, Try.ntmps165
  go_wp2_with (refine wpList_load_blk rfl 67 (.tmp 1) rfl K.out rfl _ Try.underlying67 rfl isz_AscEnd ?_)
  refine (gives_2 (lessE x) B q d _ Hs.out).mono ?_
  rintro e w1 ⟨B1, q1, d1, f, rfl, p1, n1, b1⟩
  have P1 := Lib.hid p1
  have N1 := Lib.hid (n1.mono (lo' := w.heap.size) HB.out.size (Nat.le_refl _))
  replace HB := Lib.hid (HB.out.trans (b1.mono HB.out.size))
  clear b1 K p1 n1
  go_wp2
  go_ret
  exact ⟨_, _, _, _, rfl, P1.out, N1.out, HB.out⟩

set_option maxRecDepth 100000 in
set_option maxHeartbeats 1000000 in
theorem ascTick_g5 (x : DAscEnd) (B : Option Addr) (q d : Nat) (w : World) (hs : 2 < x.xState) (h0 : ¬ x.xLeft = 0) (h1 : ¬ 0 < x.xLeft - 1) (h3 : 1 ≤ x.xLeft) (h4 : x.xTries = 4) : Calls Try.prog 165 #[.agg #[.int .i64 x.xMe, .int .i64 x.xPeer, .int .i64 x.xSecret, .int .i64 x.xWish, .int .i64 x.xLast, .int .i64 x.xState, .int .i64 x.xTag, .int .i64 x.xPeerTag, .int .i64 x.xTsn, .int .i64 x.xPeerTsn, .int .i64 x.xStreams, .slice B q d, .int .i64 x.xTries, .int .i64 x.xLeft]] w fun e w' => ∃ B1 q1 d1 f, e = .returned (.iface 268 (.agg #[.int .i64 (bareF x).xMe, .int .i64 (bareF x).xPeer, .int .i64 (bareF x).xSecret, .int .i64 (bareF x).xWish, .int .i64 (bareF x).xLast, .int .i64 (bareF x).xState, .int .i64 (bareF x).xTag, .int .i64 (bareF x).xPeerTag, .int .i64 (bareF x).xTsn, .int .i64 (bareF x).xPeerTsn, .int .i64 (bareF x).xStreams, .slice B1 q1 d1, .int .i64 (bareF x).xTries, .int .i64 (bareF x).xLeft, .slice none 0 0])) ∧ OwBy w' f (.slice B1 q1 d1) [] ∧ Nw w.heap.size w'.heap.size f ∧ Below w.heap.size w w' := by
  have Hs := Lib.hid hs
  have q0 : (x.xLeft == 0) = false := by simpa using h0
  have q4 : (x.xTries == 4) = true := by rw [h4]; rfl
  clear h0 h4 hs
  have HB := Lib.hid ((Below.refl w.heap.size w).alloc (Nat.le_refl _) (.cells #[.int .i64 x.xMe, .int .i64 x.xPeer, .int .i64 x.xSecret, .int .i64 x.xWish, .int .i64 x.xLast, .int .i64 x.xState, .int .i64 x.xTag, .int .i64 x.xPeerTag, .int .i64 x.xTsn, .int .i64 x.xPeerTsn, .int .i64 x.xStreams, .slice B q d, .int .i64 x.xTries, .int .i64 (x.xLeft - 1)] 67))
  have K := Lib.hid (Blk.new (w := w) (b := w.heap.size) #[.int .i64 x.xMe, .int .i64 x.xPeer, .int .i64 x.xSecret, .int .i64 x.xWish, .int .i64 x.xLast, .int .i64 x.xState, .int .i64 x.xTag, .int .i64 x.xPeerTag, .int .i64 x.xTsn, .int .i64 x.xPeerTsn, .int .i64 x.xStreams, .slice B q d, .int .i64 x.xTries, .int .i64 (x.xLeft - 1)] 67 rfl)
  go_enter Try.func165, Try.ntmps165
  go_wp2_with (refine wpList_load_blk rfl 67 (.tmp 1) rfl K.out rfl _ Try.underlying67 rfl isz_AscEnd ?_)
  refine (gives_5 (lessE x) B q d _ Hs.out).mono ?_
  rintro e w1 ⟨B1, q1, d1, f, rfl, p1, n1, b1⟩
  have P1 := Lib.hid p1
  have N1 := Lib.hid (n1.mono (lo' := w.heap.size) HB.out.size (Nat.le_refl _))
  replace HB := Lib.hid (HB.out.trans (b1.mono HB.out.size))
  clear b1 K p1 n1
  go_wp2
  go_ret
  exact ⟨_, _, _, _, rfl, P1.out, N1.out, HB.out⟩

set_option maxRecDepth 100000 in
set_option maxHeartbeats 2000000 in
theorem ascTick_a1 (x : DAscEnd) (B : Option Addr) (q d : Nat) (w : World) (hs : x.xState = 1) (h0 : ¬ x.xLeft = 0) (h1 : ¬ 0 < x.xLeft - 1) (h3 : 1 ≤ x.xLeft) (h4 : ¬ x.xTries = 4) (h5 : 0 ≤ x.xTries) (h6 : x.xTries ≤ 4) : Calls Try.prog 165 #[.agg #[.int .i64 x.xMe, .int .i64 x.xPeer, .int .i64 x.xSecret, .int .i64 x.xWish, .int .i64 x.xLast, .int .i64 x.xState, .int .i64 x.xTag, .int .i64 x.xPeerTag, .int .i64 x.xTsn, .int .i64 x.xPeerTsn, .int .i64 x.xStreams, .slice B q d, .int .i64 x.xTries, .int .i64 x.xLeft]] w fun e w' => ∃ S n c f, e = .returned (.iface 268 (.agg #[.int .i64 x.xMe, .int .i64 x.xPeer, .int .i64 x.xSecret, .int .i64 x.xWish, .int .i64 x.xLast, .int .i64 x.xState, .int .i64 x.xTag, .int .i64 x.xPeerTag, .int .i64 x.xTsn, .int .i64 x.xPeerTsn, .int .i64 x.xStreams, .slice B q d, .int .i64 (x.xTries + 1), .int .i64 3, .slice S n c])) ∧ OwFrmPacketS w' f (.slice S n c) (frameF (moreE x) 0 (firstC (moreE x))) ∧ Nw w.heap.size w'.heap.size f ∧ Below w.heap.size w w' := by
  have Hs := Lib.hid hs
  have q0 : (x.xLeft == 0) = false := by simpa using h0
  have q4 : (x.xTries == 4) = false := by simpa using h4
  clear h0 h4 hs
  have HB := Lib.hid ((Below.refl w.heap.size w).alloc (Nat.le_refl _) (.cells #[.int .i64 x.xMe, .int .i64 x.xPeer, .int .i64 x.xSecret, .int .i64 x.xWish, .int .i64 x.xLast, .int .i64 x.xState, .int .i64 x.xTag, .int .i64 x.xPeerTag, .int .i64 x.xTsn, .int .i64 x.xPeerTsn, .int .i64 x.xStreams, .slice B q d, .int .i64 (x.xTries + 1), .int .i64 3] 67))
  have K := Lib.hid (Blk.new (w := w) (b := w.heap.size) #[.int .i64 x.xMe, .int .i64 x.xPeer, .int .i64 x.xSecret, .int .i64 x.xWish, .int .i64 x.xLast, .int .i64 x.xState, .int .i64 x.xTag, .int .i64 x.xPeerTag, .int .i64 x.xTsn, .int .i64 x.xPeerTsn, .int .i64 x.xStreams, .slice B q d, .int .i64 (x.xTries + 1), .int .i64 3] 67 rfl)
  go_enter Try.func165, Try.ntmps165
  go_wp2_with fail
  have HB0 := Lib.hid HB.out.size
  clear q0 q4 h1 h3 h5 h6
  generalize World.alloc w _ = w2 at *
  refine wp_region_free 8 (fun y => Below w2.heap.size w2 y) (fun vals i v y f => match i with | 0 => v = .agg #[.int .i64 x.xMe, .int .i64 x.xPeer, .int .i64 x.xSecret, .int .i64 x.xWish, .int .i64 x.xLast, .int .i64 x.xState, .int .i64 x.xTag, .int .i64 x.xPeerTag, .int .i64 x.xTsn, .int .i64 x.xPeerTsn, .int .i64 x.xStreams, .slice B q d, .int .i64 (x.xTries + 1), .int .i64 3] ∧ f = [] | 1 => v = .agg #[.func (.func 293) #[] #[], .func (.func 294) #[] #[], .func (.func 295) #[] #[], .func (.func 296) #[] #[], .func (.func 297) #[] #[], .func (.func 162) #[] #[], .func (.func 298) #[] #[], .func (.func 299) #[] #[], .func (.func 300) #[] #[], .func (.func 301) #[] #[], .func (.func 302) #[] #[], .func (.func 295) #[] #[], .func (.func 303) #[] #[], .func (.func 304) #[] #[], .func (.func 154) #[] #[], .func (.func 303) #[] #[], .func (.func 305) #[] #[], .func (.func 306) #[] #[]] | 2 => v = .pointer (some ⟨w.heap.size, 5, none⟩) ∧ f = [] | 3 => v = .int .i64 1 ∧ f = [] | 4 => v = .agg #[.func (.func 296) #[] #[], .func (.func 297) #[] #[], .func (.func 162) #[] #[]] ∧ f = [] | 5 => v = .func (.func 162) #[] #[] ∧ f = [] | 6 => v = .agg #[.int .i64 x.xMe, .int .i64 x.xPeer, .int .i64 x.xSecret, .int .i64 x.xWish, .int .i64 x.xLast, .int .i64 x.xState, .int .i64 x.xTag, .int .i64 x.xPeerTag, .int .i64 x.xTsn, .int .i64 x.xPeerTsn, .int .i64 x.xStreams, .slice B q d, .int .i64 (x.xTries + 1), .int .i64 3] ∧ f = [] | 7 => OwL 195 4 EFrmPacket y f v (frameF (moreE x) 0 (firstC (moreE x))) | _ => False) (fun i => i) (by kernel_rfl) (by kernel_rfl) ?_ ?_ (Below.refl _ _).drew ?_ ?_
  · intro _ i v y y' f h hb
    match i, h with
    | 0, h => exact h
    | 1, h => exact h
    | 2, h => exact h
    | 3, h => exact h
    | 4, h => exact h
    | 5, h => exact h
    | 6, h => exact h
    | 7, h => exact OwL.below EFrmPacket.framed EFrmPacket.inside h hb
  · intro vals vals' i o v y f ho hd h
    match i, h with
    | 0, h => exact h
    | 1, h => exact h
    | 2, h => exact h
    | 3, h => exact h
    | 4, h => exact h
    | 5, h => exact h
    | 6, h => exact h
    | 7, h => exact h
  · intro vals
    simp only [List.take_succ_cons, List.take_zero, Steps]
    refine ⟨?_, ?_, ?_, ?_, ?_, ?_, ?_, ?_, trivial⟩
    · intro y fp0 hS hd
      try simp only [Act.put, List.setIfInBounds_toArray, List.set_cons_zero, List.set_cons_succ]
      exact FreeUpon.pure (.agg #[.int .i64 x.xMe, .int .i64 x.xPeer, .int .i64 x.xSecret, .int .i64 x.xWish, .int .i64 x.xLast, .int .i64 x.xState, .int .i64 x.xTag, .int .i64 x.xPeerTag, .int .i64 x.xTsn, .int .i64 x.xPeerTsn, .int .i64 x.xStreams, .slice B q d, .int .i64 (x.xTries + 1), .int .i64 3]) (exec_load_blk 67 (.tmp 1) rfl (K.out.keep hS) rfl _ Try.underlying67 rfl isz_AscEnd) ⟨rfl, rfl⟩ hS
    · intro y fp0 hS hd
      try simp only [Act.put, List.setIfInBounds_toArray, List.set_cons_zero, List.set_cons_succ]
      refine FreeUpon.call (g := 237) (args := #[]) ?_ ((ascStates_any y).mono fun e y' ⟨he, h3⟩ => ⟨_, [], he, rfl, Nw.nil _ _, h3, hS.trans (h3.mono hS.size)⟩)
      go_simp
    · intro y fp0 hS hd
      try simp only [Act.put, List.setIfInBounds_toArray, List.set_cons_zero, List.set_cons_succ]
      refine FreeUpon.pure (.pointer (some ⟨w.heap.size, 5, none⟩)) ?_ ⟨rfl, rfl⟩ hS
      go_simp
    · intro y fp0 hS hd
      try simp only [Act.put, List.setIfInBounds_toArray, List.set_cons_zero, List.set_cons_succ]
      obtain ⟨⟨hp2, _⟩, _⟩ := hd { on := 2, ground := Ground.data } (by simp) (by kernel_rfl)
      simp only at hp2
      have kk := (K.out.keep hS).at (i := 5) rfl
      rw [Hs.out] at kk
      refine FreeUpon.pure (.int .i64 1) ?_ ⟨rfl, rfl⟩ hS
      go_simp
    · intro y fp0 hS hd
      try simp only [Act.put, List.setIfInBounds_toArray, List.set_cons_zero, List.set_cons_succ]
      have hp1 : vals 1 = .agg #[.func (.func 293) #[] #[], .func (.func 294) #[] #[], .func (.func 295) #[] #[], .func (.func 296) #[] #[], .func (.func 297) #[] #[], .func (.func 162) #[] #[], .func (.func 298) #[] #[], .func (.func 299) #[] #[], .func (.func 300) #[] #[], .func (.func 301) #[] #[], .func (.func 302) #[] #[], .func (.func 295) #[] #[], .func (.func 303) #[] #[], .func (.func 304) #[] #[], .func (.func 154) #[] #[], .func (.func 303) #[] #[], .func (.func 305) #[] #[], .func (.func 306) #[] #[]] := (hd { on := 1, ground := Ground.data } (by simp) (by kernel_rfl)).1
      obtain ⟨⟨hp3, _⟩, _⟩ := hd { on := 3, ground := Ground.data } (by simp) (by kernel_rfl)
      simp only at hp3
      refine FreeUpon.pure (.agg #[.func (.func 296) #[] #[], .func (.func 297) #[] #[], .func (.func 162) #[] #[]]) ?_ ⟨rfl, rfl⟩ hS
      rw [hp1, hp3]
      kernel_rfl
    · intro y fp0 hS hd
      try simp only [Act.put, List.setIfInBounds_toArray, List.set_cons_zero, List.set_cons_succ]
      obtain ⟨⟨hp4, _⟩, _⟩ := hd { on := 4, ground := Ground.data } (by simp) (by kernel_rfl)
      simp only at hp4
      refine FreeUpon.pure (.func (.func 162) #[] #[]) ?_ ⟨rfl, rfl⟩ hS
      rw [hp4]
      kernel_rfl
    · intro y fp0 hS hd
      try simp only [Act.put, List.setIfInBounds_toArray, List.set_cons_zero, List.set_cons_succ]
      exact FreeUpon.pure (.agg #[.int .i64 x.xMe, .int .i64 x.xPeer, .int .i64 x.xSecret, .int .i64 x.xWish, .int .i64 x.xLast, .int .i64 x.xState, .int .i64 x.xTag, .int .i64 x.xPeerTag, .int .i64 x.xTsn, .int .i64 x.xPeerTsn, .int .i64 x.xStreams, .slice B q d, .int .i64 (x.xTries + 1), .int .i64 3]) (exec_load_blk 67 (.tmp 1) rfl (K.out.keep hS) rfl _ Try.underlying67 rfl isz_AscEnd) ⟨rfl, rfl⟩ hS
    · intro y fp0 hS hd
      try simp only [Act.put, List.setIfInBounds_toArray, List.set_cons_zero, List.set_cons_succ]
      obtain ⟨⟨hp5, _⟩, _⟩ := hd { on := 5, ground := Ground.data } (by simp) (by kernel_rfl)
      simp only at hp5
      obtain ⟨⟨hp6, _⟩, _⟩ := hd { on := 6, ground := Ground.data } (by simp) (by kernel_rfl)
      simp only at hp6
      refine FreeUpon.call (g := 162) (args := #[.agg #[.int .i64 x.xMe, .int .i64 x.xPeer, .int .i64 x.xSecret, .int .i64 x.xWish, .int .i64 x.xLast, .int .i64 x.xState, .int .i64 x.xTag, .int .i64 x.xPeerTag, .int .i64 x.xTsn, .int .i64 x.xPeerTsn, .int .i64 x.xStreams, .slice B q d, .int .i64 (x.xTries + 1), .int .i64 3]]) ?_ ((ascFirstWord_n (moreE x) (.slice B q d) y).mono fun e y' ⟨v', f', he, h1, h2, h3⟩ => ⟨v', f', he, h1, h2, h3, hS.trans (h3.mono hS.size)⟩)
      go_simp
  · intro vals fp y hS hb hf
    have Hf := Lib.hid hf
    clear hf hb
    have e0 : vals 0 = .agg #[.int .i64 x.xMe, .int .i64 x.xPeer, .int .i64 x.xSecret, .int .i64 x.xWish, .int .i64 x.xLast, .int .i64 x.xState, .int .i64 x.xTag, .int .i64 x.xPeerTag, .int .i64 x.xTsn, .int .i64 x.xPeerTsn, .int .i64 x.xStreams, .slice B q d, .int .i64 (x.xTries + 1), .int .i64 3] := (Hf.out.1 0 (by omega) rfl).1.1
    have e2 : vals 2 = .pointer (some ⟨w.heap.size, 5, none⟩) := (Hf.out.1 2 (by omega) rfl).1.1
    have e3 : vals 3 = .int .i64 1 := (Hf.out.1 3 (by omega) rfl).1.1
    have e6 : vals 6 = .agg #[.int .i64 x.xMe, .int .i64 x.xPeer, .int .i64 x.xSecret, .int .i64 x.xWish, .int .i64 x.xLast, .int .i64 x.xState, .int .i64 x.xTag, .int .i64 x.xPeerTag, .int .i64 x.xTsn, .int .i64 x.xPeerTsn, .int .i64 x.xStreams, .slice B q d, .int .i64 (x.xTries + 1), .int .i64 3] := (Hf.out.1 6 (by omega) rfl).1.1
    have o7 : OwL 195 4 EFrmPacket y (fp 7) (vals 7) (frameF (moreE x) 0 (firstC (moreE x))) := (Hf.out.1 7 (by omega) rfl).1
    have n7 : Nw w2.heap.size y.heap.size (fp 7) := (Hf.out.1 7 (by omega) rfl).2
    have hsl : ∃ S n c, vals 7 = .slice S n c := by obtain ⟨S, c, h⟩ := OwL.slice o7; exact ⟨S, _, c, h⟩
    obtain ⟨S, n, c, e7⟩ := hsl
    rw [e7] at o7
    have O7 := Lib.hid o7
    have N7 := Lib.hid (n7.mono (lo' := w.heap.size) HB0.out (Nat.le_refl _))
    replace HB := Lib.hid (HB.out.trans (hS.mono HB.out.size))
    simp only [List.take_succ_cons, List.take_zero, List.drop_succ_cons, List.drop_zero, putAll, Act.put, List.setIfInBounds_toArray, List.set_cons_zero, List.set_cons_succ, e0, e7]
    clear hS Hf e0 e6 e7 o7 n7 K
    go_wp2_with fail
    refine (ascTo_n (moreE x) B q d S n c _).mono ?_
    rintro e w5 ⟨rfl, b5⟩
    replace O7 := Lib.hid (OwL.below EFrmPacket.framed EFrmPacket.inside O7.out b5)
    replace N7 := Lib.hid (N7.out.mono (Nat.le_refl _) b5.size)
    replace HB := Lib.hid (HB.out.trans (b5.mono HB.out.size))
    clear b5
    go_wp2
    go_ret
    exact ⟨_, _, _, _, rfl, O7.out, N7.out, HB.out⟩

set_option maxRecDepth 100000 in
set_option maxHeartbeats 2000000 in
theorem ascTick_a2 (x : DAscEnd) (B : Option Addr) (q d : Nat) (w : World) (hs : x.xState = 2) (h0 : ¬ x.xLeft = 0) (h1 : ¬ 0 < x.xLeft - 1) (h3 : 1 ≤ x.xLeft) (h4 : ¬ x.xTries = 4) (h5 : 0 ≤ x.xTries) (h6 : x.xTries ≤ 4) (hv : RdB w (.slice B q d) x.xCookie) (hlen : x.xCookie.length ≤ 1048576) : Calls Try.prog 165 #[.agg #[.int .i64 x.xMe, .int .i64 x.xPeer, .int .i64 x.xSecret, .int .i64 x.xWish, .int .i64 x.xLast, .int .i64 x.xState, .int .i64 x.xTag, .int .i64 x.xPeerTag, .int .i64 x.xTsn, .int .i64 x.xPeerTsn, .int .i64 x.xStreams, .slice B q d, .int .i64 x.xTries, .int .i64 x.xLeft]] w fun e w' => ∃ S n c f, e = .returned (.iface 268 (.agg #[.int .i64 x.xMe, .int .i64 x.xPeer, .int .i64 x.xSecret, .int .i64 x.xWish, .int .i64 x.xLast, .int .i64 x.xState, .int .i64 x.xTag, .int .i64 x.xPeerTag, .int .i64 x.xTsn, .int .i64 x.xPeerTsn, .int .i64 x.xStreams, .slice B q d, .int .i64 (x.xTries + 1), .int .i64 3, .slice S n c])) ∧ OwFrmPacketS w' f (.slice S n c) (frameF (moreE x) (moreE x).xPeerTag (echoC (moreE x))) ∧ Nw w.heap.size w'.heap.size f ∧ Below w.heap.size w w' := by
  have Hs := Lib.hid hs
  have q0 : (x.xLeft == 0) = false := by simpa using h0
  have q4 : (x.xTries == 4) = false := by simpa using h4
  clear h0 h4 hs
  have HB := Lib.hid ((Below.refl w.heap.size w).alloc (Nat.le_refl _) (.cells #[.int .i64 x.xMe, .int .i64 x.xPeer, .int .i64 x.xSecret, .int .i64 x.xWish, .int .i64 x.xLast, .int .i64 x.xState, .int .i64 x.xTag, .int .i64 x.xPeerTag, .int .i64 x.xTsn, .int .i64 x.xPeerTsn, .int .i64 x.xStreams, .slice B q d, .int .i64 (x.xTries + 1), .int .i64 3] 67))
  have K := Lib.hid (Blk.new (w := w) (b := w.heap.size) #[.int .i64 x.xMe, .int .i64 x.xPeer, .int .i64 x.xSecret, .int .i64 x.xWish, .int .i64 x.xLast, .int .i64 x.xState, .int .i64 x.xTag, .int .i64 x.xPeerTag, .int .i64 x.xTsn, .int .i64 x.xPeerTsn, .int .i64 x.xStreams, .slice B q d, .int .i64 (x.xTries + 1), .int .i64 3] 67 rfl)
  have HV := Lib.hid (hv.below HB.out)
  have Hlen := Lib.hid hlen
  clear hv hlen
  go_enter Try.func165, Try.ntmps165
  go_wp2_with fail
  have HB0 := Lib.hid HB.out.size
  clear q0 q4 h1 h3 h5 h6
  generalize World.alloc w _ = w2 at *
  refine wp_region_free 8 (fun y => Below w2.heap.size w2 y) (fun vals i v y f => match i with | 0 => v = .agg #[.int .i64 x.xMe, .int .i64 x.xPeer, .int .i64 x.xSecret, .int .i64 x.xWish, .int .i64 x.xLast, .int .i64 x.xState, .int .i64 x.xTag, .int .i64 x.xPeerTag, .int .i64 x.xTsn, .int .i64 x.xPeerTsn, .int .i64 x.xStreams, .slice B q d, .int .i64 (x.xTries + 1), .int .i64 3] ∧ f = [] | 1 => v = .agg #[.func (.func 293) #[] #[], .func (.func 294) #[] #[], .func (.func 295) #[] #[], .func (.func 296) #[] #[], .func (.func 297) #[] #[], .func (.func 162) #[] #[], .func (.func 298) #[] #[], .func (.func 299) #[] #[], .func (.func 300) #[] #[], .func (.func 301) #[] #[], .func (.func 302) #[] #[], .func (.func 295) #[] #[], .func (.func 303) #[] #[], .func (.func 304) #[] #[], .func (.func 154) #[] #[], .func (.func 303) #[] #[], .func (.func 305) #[] #[], .func (.func 306) #[] #[]] | 2 => v = .pointer (some ⟨w.heap.size, 5, none⟩) ∧ f = [] | 3 => v = .int .i64 2 ∧ f = [] | 4 => v = .agg #[.func (.func 298) #[] #[], .func (.func 299) #[] #[], .func (.func 300) #[] #[]] ∧ f = [] | 5 => v = .func (.func 300) #[] #[] ∧ f = [] | 6 => v = .agg #[.int .i64 x.xMe, .int .i64 x.xPeer, .int .i64 x.xSecret, .int .i64 x.xWish, .int .i64 x.xLast, .int .i64 x.xState, .int .i64 x.xTag, .int .i64 x.xPeerTag, .int .i64 x.xTsn, .int .i64 x.xPeerTsn, .int .i64 x.xStreams, .slice B q d, .int .i64 (x.xTries + 1), .int .i64 3] ∧ f = [] | 7 => OwL 195 4 EFrmPacket y f v (frameF (moreE x) (moreE x).xPeerTag (echoC (moreE x))) | _ => False) (fun i => i) (by kernel_rfl) (by kernel_rfl) ?_ ?_ (Below.refl _ _).drew ?_ ?_
  · intro _ i v y y' f h hb
    match i, h with
    | 0, h => exact h
    | 1, h => exact h
    | 2, h => exact h
    | 3, h => exact h
    | 4, h => exact h
    | 5, h => exact h
    | 6, h => exact h
    | 7, h => exact OwL.below EFrmPacket.framed EFrmPacket.inside h hb
  · intro vals vals' i o v y f ho hd h
    match i, h with
    | 0, h => exact h
    | 1, h => exact h
    | 2, h => exact h
    | 3, h => exact h
    | 4, h => exact h
    | 5, h => exact h
    | 6, h => exact h
    | 7, h => exact h
  · intro vals
    simp only [List.take_succ_cons, List.take_zero, Steps]
    refine ⟨?_, ?_, ?_, ?_, ?_, ?_, ?_, ?_, trivial⟩
    · intro y fp0 hS hd
      try simp only [Act.put, List.setIfInBounds_toArray, List.set_cons_zero, List.set_cons_succ]
      exact FreeUpon.pure (.agg #[.int .i64 x.xMe, .int .i64 x.xPeer, .int .i64 x.xSecret, .int .i64 x.xWish, .int .i64 x.xLast, .int .i64 x.xState, .int .i64 x.xTag, .int .i64 x.xPeerTag, .int .i64 x.xTsn, .int .i64 x.xPeerTsn, .int .i64 x.xStreams, .slice B q d, .int .i64 (x.xTries + 1), .int .i64 3]) (exec_load_blk 67 (.tmp 1) rfl (K.out.keep hS) rfl _ Try.underlying67 rfl isz_AscEnd) ⟨rfl, rfl⟩ hS
    · intro y fp0 hS hd
      try simp only [Act.put, List.setIfInBounds_toArray, List.set_cons_zero, List.set_cons_succ]
      refine FreeUpon.call (g := 237) (args := #[]) ?_ ((ascStates_any y).mono fun e y' ⟨he, h3⟩ => ⟨_, [], he, rfl, Nw.nil _ _, h3, hS.trans (h3.mono hS.size)⟩)
      go_simp
    · intro y fp0 hS hd
      try simp only [Act.put, List.setIfInBounds_toArray, List.set_cons_zero, List.set_cons_succ]
      refine FreeUpon.pure (.pointer (some ⟨w.heap.size, 5, none⟩)) ?_ ⟨rfl, rfl⟩ hS
      go_simp
    · intro y fp0 hS hd
      try simp only [Act.put, List.setIfInBounds_toArray, List.set_cons_zero, List.set_cons_succ]
      obtain ⟨⟨hp2, _⟩, _⟩ := hd { on := 2, ground := Ground.data } (by simp) (by kernel_rfl)
      simp only at hp2
      have kk := (K.out.keep hS).at (i := 5) rfl
      rw [Hs.out] at kk
      refine FreeUpon.pure (.int .i64 2) ?_ ⟨rfl, rfl⟩ hS
      go_simp
    · intro y fp0 hS hd
      try simp only [Act.put, List.setIfInBounds_toArray, List.set_cons_zero, List.set_cons_succ]
      have hp1 : vals 1 = .agg #[.func (.func 293) #[] #[], .func (.func 294) #[] #[], .func (.func 295) #[] #[], .func (.func 296) #[] #[], .func (.func 297) #[] #[], .func (.func 162) #[] #[], .func (.func 298) #[] #[], .func (.func 299) #[] #[], .func (.func 300) #[] #[], .func (.func 301) #[] #[], .func (.func 302) #[] #[], .func (.func 295) #[] #[], .func (.func 303) #[] #[], .func (.func 304) #[] #[], .func (.func 154) #[] #[], .func (.func 303) #[] #[], .func (.func 305) #[] #[], .func (.func 306) #[] #[]] := (hd { on := 1, ground := Ground.data } (by simp) (by kernel_rfl)).1
      obtain ⟨⟨hp3, _⟩, _⟩ := hd { on := 3, ground := Ground.data } (by simp) (by kernel_rfl)
      simp only at hp3
      refine FreeUpon.pure (.agg #[.func (.func 298) #[] #[], .func (.func 299) #[] #[], .func (.func 300) #[] #[]]) ?_ ⟨rfl, rfl⟩ hS
      rw [hp1, hp3]
      kernel_rfl
    · intro y fp0 hS hd
      try simp only [Act.put, List.setIfInBounds_toArray, List.set_cons_zero, List.set_cons_succ]
      obtain ⟨⟨hp4, _⟩, _⟩ := hd { on := 4, ground := Ground.data } (by simp) (by kernel_rfl)
      simp only at hp4
      refine FreeUpon.pure (.func (.func 300) #[] #[]) ?_ ⟨rfl, rfl⟩ hS
      rw [hp4]
      kernel_rfl
    · intro y fp0 hS hd
      try simp only [Act.put, List.setIfInBounds_toArray, List.set_cons_zero, List.set_cons_succ]
      exact FreeUpon.pure (.agg #[.int .i64 x.xMe, .int .i64 x.xPeer, .int .i64 x.xSecret, .int .i64 x.xWish, .int .i64 x.xLast, .int .i64 x.xState, .int .i64 x.xTag, .int .i64 x.xPeerTag, .int .i64 x.xTsn, .int .i64 x.xPeerTsn, .int .i64 x.xStreams, .slice B q d, .int .i64 (x.xTries + 1), .int .i64 3]) (exec_load_blk 67 (.tmp 1) rfl (K.out.keep hS) rfl _ Try.underlying67 rfl isz_AscEnd) ⟨rfl, rfl⟩ hS
    · intro y fp0 hS hd
      try simp only [Act.put, List.setIfInBounds_toArray, List.set_cons_zero, List.set_cons_succ]
      obtain ⟨⟨hp5, _⟩, _⟩ := hd { on := 5, ground := Ground.data } (by simp) (by kernel_rfl)
      simp only at hp5
      obtain ⟨⟨hp6, _⟩, _⟩ := hd { on := 6, ground := Ground.data } (by simp) (by kernel_rfl)
      simp only at hp6
      refine FreeUpon.call (g := 300) (args := #[.agg #[.int .i64 x.xMe, .int .i64 x.xPeer, .int .i64 x.xSecret, .int .i64 x.xWish, .int .i64 x.xLast, .int .i64 x.xState, .int .i64 x.xTag, .int .i64 x.xPeerTag, .int .i64 x.xTsn, .int .i64 x.xPeerTsn, .int .i64 x.xStreams, .slice B q d, .int .i64 (x.xTries + 1), .int .i64 3]]) ?_ ((ascEcho_n (moreE x) (.slice B q d) y (HV.out.below hS) Hlen.out).mono fun e y' ⟨v', f', he, h1, h2, h3⟩ => ⟨v', f', he, h1, h2, h3, hS.trans (h3.mono hS.size)⟩)
      go_simp
  · intro vals fp y hS hb hf
    have Hf := Lib.hid hf
    clear hf hb
    have e0 : vals 0 = .agg #[.int .i64 x.xMe, .int .i64 x.xPeer, .int .i64 x.xSecret, .int .i64 x.xWish, .int .i64 x.xLast, .int .i64 x.xState, .int .i64 x.xTag, .int .i64 x.xPeerTag, .int .i64 x.xTsn, .int .i64 x.xPeerTsn, .int .i64 x.xStreams, .slice B q d, .int .i64 (x.xTries + 1), .int .i64 3] := (Hf.out.1 0 (by omega) rfl).1.1
    have e2 : vals 2 = .pointer (some ⟨w.heap.size, 5, none⟩) := (Hf.out.1 2 (by omega) rfl).1.1
    have e3 : vals 3 = .int .i64 2 := (Hf.out.1 3 (by omega) rfl).1.1
    have e6 : vals 6 = .agg #[.int .i64 x.xMe, .int .i64 x.xPeer, .int .i64 x.xSecret, .int .i64 x.xWish, .int .i64 x.xLast, .int .i64 x.xState, .int .i64 x.xTag, .int .i64 x.xPeerTag, .int .i64 x.xTsn, .int .i64 x.xPeerTsn, .int .i64 x.xStreams, .slice B q d, .int .i64 (x.xTries + 1), .int .i64 3] := (Hf.out.1 6 (by omega) rfl).1.1
    have o7 : OwL 195 4 EFrmPacket y (fp 7) (vals 7) (frameF (moreE x) (moreE x).xPeerTag (echoC (moreE x))) := (Hf.out.1 7 (by omega) rfl).1
    have n7 : Nw w2.heap.size y.heap.size (fp 7) := (Hf.out.1 7 (by omega) rfl).2
    have hsl : ∃ S n c, vals 7 = .slice S n c := by obtain ⟨S, c, h⟩ := OwL.slice o7; exact ⟨S, _, c, h⟩
    obtain ⟨S, n, c, e7⟩ := hsl
    rw [e7] at o7
    have O7 := Lib.hid o7
    have N7 := Lib.hid (n7.mono (lo' := w.heap.size) HB0.out (Nat.le_refl _))
    replace HB := Lib.hid (HB.out.trans (hS.mono HB.out.size))
    simp only [List.take_succ_cons, List.take_zero, List.drop_succ_cons, List.drop_zero, putAll, Act.put, List.setIfInBounds_toArray, List.set_cons_zero, List.set_cons_succ, e0, e7]
    clear hS Hf e0 e6 e7 o7 n7 K
    go_wp2_with fail
    refine (ascTo_n (moreE x) B q d S n c _).mono ?_
    rintro e w5 ⟨rfl, b5⟩
    replace O7 := Lib.hid (OwL.below EFrmPacket.framed EFrmPacket.inside O7.out b5)
    replace N7 := Lib.hid (N7.out.mono (Nat.le_refl _) b5.size)
    replace HB := Lib.hid (HB.out.trans (b5.mono HB.out.size))
    clear b5
    go_wp2
    go_ret
    exact ⟨_, _, _, _, rfl, O7.out, N7.out, HB.out⟩

set_option maxRecDepth 100000 in
set_option maxHeartbeats 2000000 in
theorem ascTick_a4 (x : DAscEnd) (B : Option Addr) (q d : Nat) (w : World) (hs : x.xState = 4) (h0 : ¬ x.xLeft = 0) (h1 : ¬ 0 < x.xLeft - 1) (h3 : 1 ≤ x.xLeft) (h4 : ¬ x.xTries = 4) (h5 : 0 ≤ x.xTries) (h6 : x.xTries ≤ 4) : Calls Try.prog 165 #[.agg #[.int .i64 x.xMe, .int .i64 x.xPeer, .int .i64 x.xSecret, .int .i64 x.xWish, .int .i64 x.xLast, .int .i64 x.xState, .int .i64 x.xTag, .int .i64 x.xPeerTag, .int .i64 x.xTsn, .int .i64 x.xPeerTsn, .int .i64 x.xStreams, .slice B q d, .int .i64 x.xTries, .int .i64 x.xLeft]] w fun e w' => ∃ S n c f, e = .returned (.iface 268 (.agg #[.int .i64 x.xMe, .int .i64 x.xPeer, .int .i64 x.xSecret, .int .i64 x.xWish, .int .i64 x.xLast, .int .i64 x.xState, .int .i64 x.xTag, .int .i64 x.xPeerTag, .int .i64 x.xTsn, .int .i64 x.xPeerTsn, .int .i64 x.xStreams, .slice B q d, .int .i64 (x.xTries + 1), .int .i64 3, .slice S n c])) ∧ OwFrmPacketS w' f (.slice S n c) (frameF (moreE x) (moreE x).xPeerTag (shutC (moreE x).xPeerTsn)) ∧ Nw w.heap.size w'.heap.size f ∧ Below w.heap.size w w' := by
  have Hs := Lib.hid hs
  have q0 : (x.xLeft == 0) = false := by simpa using h0
  have q4 : (x.xTries == 4) = false := by simpa using h4
  clear h0 h4 hs
  have HB := Lib.hid ((Below.refl w.heap.size w).alloc (Nat.le_refl _) (.cells #[.int .i64 x.xMe, .int .i64 x.xPeer, .int .i64 x.xSecret, .int .i64 x.xWish, .int .i64 x.xLast, .int .i64 x.xState, .int .i64 x.xTag, .int .i64 x.xPeerTag, .int .i64 x.xTsn, .int .i64 x.xPeerTsn, .int .i64 x.xStreams, .slice B q d, .int .i64 (x.xTries + 1), .int .i64 3] 67))
  have K := Lib.hid (Blk.new (w := w) (b := w.heap.size) #[.int .i64 x.xMe, .int .i64 x.xPeer, .int .i64 x.xSecret, .int .i64 x.xWish, .int .i64 x.xLast, .int .i64 x.xState, .int .i64 x.xTag, .int .i64 x.xPeerTag, .int .i64 x.xTsn, .int .i64 x.xPeerTsn, .int .i64 x.xStreams, .slice B q d, .int .i64 (x.xTries + 1), .int .i64 3] 67 rfl)
  go_enter Try.func165, Try.ntmps165
  go_wp2_with fail
  have HB0 := Lib.hid HB.out.size
  clear q0 q4 h1 h3 h5 h6
  generalize World.alloc w _ = w2 at *
  refine wp_region_free 8 (fun y => Below w2.heap.size w2 y) (fun vals i v y f => match i with | 0 => v = .agg #[.int .i64 x.xMe, .int .i64 x.xPeer, .int .i64 x.xSecret, .int .i64 x.xWish, .int .i64 x.xLast, .int .i64 x.xState, .int .i64 x.xTag, .int .i64 x.xPeerTag, .int .i64 x.xTsn, .int .i64 x.xPeerTsn, .int .i64 x.xStreams, .slice B q d, .int .i64 (x.xTries + 1), .int .i64 3] ∧ f = [] | 1 => v = .agg #[.func (.func 293) #[] #[], .func (.func 294) #[] #[], .func (.func 295) #[] #[], .func (.func 296) #[] #[], .func (.func 297) #[] #[], .func (.func 162) #[] #[], .func (.func 298) #[] #[], .func (.func 299) #[] #[], .func (.func 300) #[] #[], .func (.func 301) #[] #[], .func (.func 302) #[] #[], .func (.func 295) #[] #[], .func (.func 303) #[] #[], .func (.func 304) #[] #[], .func (.func 154) #[] #[], .func (.func 303) #[] #[], .func (.func 305) #[] #[], .func (.func 306) #[] #[]] | 2 => v = .pointer (some ⟨w.heap.size, 5, none⟩) ∧ f = [] | 3 => v = .int .i64 4 ∧ f = [] | 4 => v = .agg #[.func (.func 303) #[] #[], .func (.func 304) #[] #[], .func (.func 154) #[] #[]] ∧ f = [] | 5 => v = .func (.func 154) #[] #[] ∧ f = [] | 6 => v = .agg #[.int .i64 x.xMe, .int .i64 x.xPeer, .int .i64 x.xSecret, .int .i64 x.xWish, .int .i64 x.xLast, .int .i64 x.xState, .int .i64 x.xTag, .int .i64 x.xPeerTag, .int .i64 x.xTsn, .int .i64 x.xPeerTsn, .int .i64 x.xStreams, .slice B q d, .int .i64 (x.xTries + 1), .int .i64 3] ∧ f = [] | 7 => OwL 195 4 EFrmPacket y f v (frameF (moreE x) (moreE x).xPeerTag (shutC (moreE x).xPeerTsn)) | _ => False) (fun i => i) (by kernel_rfl) (by kernel_rfl) ?_ ?_ (Below.refl _ _).drew ?_ ?_
  · intro _ i v y y' f h hb
    match i, h with
    | 0, h => exact h
    | 1, h => exact h
    | 2, h => exact h
    | 3, h => exact h
    | 4, h => exact h
    | 5, h => exact h
    | 6, h => exact h
    | 7, h => exact OwL.below EFrmPacket.framed EFrmPacket.inside h hb
  · intro vals vals' i o v y f ho hd h
    match i, h with
    | 0, h => exact h
    | 1, h => exact h
    | 2, h => exact h
    | 3, h => exact h
    | 4, h => exact h
    | 5, h => exact h
    | 6, h => exact h
    | 7, h => exact h
  · intro vals
    simp only [List.take_succ_cons, List.take_zero, Steps]
    refine ⟨?_, ?_, ?_, ?_, ?_, ?_, ?_, ?_, trivial⟩
    · intro y fp0 hS hd
      try simp only [Act.put, List.setIfInBounds_toArray, List.set_cons_zero, List.set_cons_succ]
      exact FreeUpon.pure (.agg #[.int .i64 x.xMe, .int .i64 x.xPeer, .int .i64 x.xSecret, .int .i64 x.xWish, .int .i64 x.xLast, .int .i64 x.xState, .int .i64 x.xTag, .int .i64 x.xPeerTag, .int .i64 x.xTsn, .int .i64 x.xPeerTsn, .int .i64 x.xStreams, .slice B q d, .int .i64 (x.xTries + 1), .int .i64 3]) (exec_load_blk 67 (.tmp 1) rfl (K.out.keep hS) rfl _ Try.underlying67 rfl isz_AscEnd) ⟨rfl, rfl⟩ hS
    · intro y fp0 hS hd
      try simp only [Act.put, List.setIfInBounds_toArray, List.set_cons_zero, List.set_cons_succ]
      refine FreeUpon.call (g := 237) (args := #[]) ?_ ((ascStates_any y).mono fun e y' ⟨he, h3⟩ => ⟨_, [], he, rfl, Nw.nil _ _, h3, hS.trans (h3.mono hS.size)⟩)
      go_simp
    · intro y fp0 hS hd
      try simp only [Act.put, List.setIfInBounds_toArray, List.set_cons_zero, List.set_cons_succ]
      refine FreeUpon.pure (.pointer (some ⟨w.heap.size, 5, none⟩)) ?_ ⟨rfl, rfl⟩ hS
      go_simp
    · intro y fp0 hS hd
      try simp only [Act.put, List.setIfInBounds_toArray, List.set_cons_zero, List.set_cons_succ]
      obtain ⟨⟨hp2, _⟩, _⟩ := hd { on := 2, ground := Ground.data } (by simp) (by kernel_rfl)
      simp only at hp2
      have kk := (K.out.keep hS).at (i := 5) rfl
      rw [Hs.out] at kk
      refine FreeUpon.pure (.int .i64 4) ?_ ⟨rfl, rfl⟩ hS
      go_simp
    · intro y fp0 hS hd
      try simp only [Act.put, List.setIfInBounds_toArray, List.set_cons_zero, List.set_cons_succ]
      have hp1 : vals 1 = .agg #[.func (.func 293) #[] #[], .func (.func 294) #[] #[], .func (.func 295) #[] #[], .func (.func 296) #[] #[], .func (.func 297) #[] #[], .func (.func 162) #[] #[], .func (.func 298) #[] #[], .func (.func 299) #[] #[], .func (.func 300) #[] #[], .func (.func 301) #[] #[], .func (.func 302) #[] #[], .func (.func 295) #[] #[], .func (.func 303) #[] #[], .func (.func 304) #[] #[], .func (.func 154) #[] #[], .func (.func 303) #[] #[], .func (.func 305) #[] #[], .func (.func 306) #[] #[]] := (hd { on := 1, ground := Ground.data } (by simp) (by kernel_rfl)).1
      obtain ⟨⟨hp3, _⟩, _⟩ := hd { on := 3, ground := Ground.data } (by simp) (by kernel_rfl)
      simp only at hp3
      refine FreeUpon.pure (.agg #[.func (.func 303) #[] #[], .func (.func 304) #[] #[], .func (.func 154) #[] #[]]) ?_ ⟨rfl, rfl⟩ hS
      rw [hp1, hp3]
      kernel_rfl
    · intro y fp0 hS hd
      try simp only [Act.put, List.setIfInBounds_toArray, List.set_cons_zero, List.set_cons_succ]
      obtain ⟨⟨hp4, _⟩, _⟩ := hd { on := 4, ground := Ground.data } (by simp) (by kernel_rfl)
      simp only at hp4
      refine FreeUpon.pure (.func (.func 154) #[] #[]) ?_ ⟨rfl, rfl⟩ hS
      rw [hp4]
      kernel_rfl
    · intro y fp0 hS hd
      try simp only [Act.put, List.setIfInBounds_toArray, List.set_cons_zero, List.set_cons_succ]
      exact FreeUpon.pure (.agg #[.int .i64 x.xMe, .int .i64 x.xPeer, .int .i64 x.xSecret, .int .i64 x.xWish, .int .i64 x.xLast, .int .i64 x.xState, .int .i64 x.xTag, .int .i64 x.xPeerTag, .int .i64 x.xTsn, .int .i64 x.xPeerTsn, .int .i64 x.xStreams, .slice B q d, .int .i64 (x.xTries + 1), .int .i64 3]) (exec_load_blk 67 (.tmp 1) rfl (K.out.keep hS) rfl _ Try.underlying67 rfl isz_AscEnd) ⟨rfl, rfl⟩ hS
    · intro y fp0 hS hd
      try simp only [Act.put, List.setIfInBounds_toArray, List.set_cons_zero, List.set_cons_succ]
      obtain ⟨⟨hp5, _⟩, _⟩ := hd { on := 5, ground := Ground.data } (by simp) (by kernel_rfl)
      simp only at hp5
      obtain ⟨⟨hp6, _⟩, _⟩ := hd { on := 6, ground := Ground.data } (by simp) (by kernel_rfl)
      simp only at hp6
      refine FreeUpon.call (g := 154) (args := #[.agg #[.int .i64 x.xMe, .int .i64 x.xPeer, .int .i64 x.xSecret, .int .i64 x.xWish, .int .i64 x.xLast, .int .i64 x.xState, .int .i64 x.xTag, .int .i64 x.xPeerTag, .int .i64 x.xTsn, .int .i64 x.xPeerTsn, .int .i64 x.xStreams, .slice B q d, .int .i64 (x.xTries + 1), .int .i64 3]]) ?_ ((ascShut_n (moreE x) (.slice B q d) y).mono fun e y' ⟨v', f', he, h1, h2, h3⟩ => ⟨v', f', he, h1, h2, h3, hS.trans (h3.mono hS.size)⟩)
      go_simp
  · intro vals fp y hS hb hf
    have Hf := Lib.hid hf
    clear hf hb
    have e0 : vals 0 = .agg #[.int .i64 x.xMe, .int .i64 x.xPeer, .int .i64 x.xSecret, .int .i64 x.xWish, .int .i64 x.xLast, .int .i64 x.xState, .int .i64 x.xTag, .int .i64 x.xPeerTag, .int .i64 x.xTsn, .int .i64 x.xPeerTsn, .int .i64 x.xStreams, .slice B q d, .int .i64 (x.xTries + 1), .int .i64 3] := (Hf.out.1 0 (by omega) rfl).1.1
    have e2 : vals 2 = .pointer (some ⟨w.heap.size, 5, none⟩) := (Hf.out.1 2 (by omega) rfl).1.1
    have e3 : vals 3 = .int .i64 4 := (Hf.out.1 3 (by omega) rfl).1.1
    have e6 : vals 6 = .agg #[.int .i64 x.xMe, .int .i64 x.xPeer, .int .i64 x.xSecret, .int .i64 x.xWish, .int .i64 x.xLast, .int .i64 x.xState, .int .i64 x.xTag, .int .i64 x.xPeerTag, .int .i64 x.xTsn, .int .i64 x.xPeerTsn, .int .i64 x.xStreams, .slice B q d, .int .i64 (x.xTries + 1), .int .i64 3] := (Hf.out.1 6 (by omega) rfl).1.1
    have o7 : OwL 195 4 EFrmPacket y (fp 7) (vals 7) (frameF (moreE x) (moreE x).xPeerTag (shutC (moreE x).xPeerTsn)) := (Hf.out.1 7 (by omega) rfl).1
    have n7 : Nw w2.heap.size y.heap.size (fp 7) := (Hf.out.1 7 (by omega) rfl).2
    have hsl : ∃ S n c, vals 7 = .slice S n c := by obtain ⟨S, c, h⟩ := OwL.slice o7; exact ⟨S, _, c, h⟩
    obtain ⟨S, n, c, e7⟩ := hsl
    rw [e7] at o7
    have O7 := Lib.hid o7
    have N7 := Lib.hid (n7.mono (lo' := w.heap.size) HB0.out (Nat.le_refl _))
    replace HB := Lib.hid (HB.out.trans (hS.mono HB.out.size))
    simp only [List.take_succ_cons, List.take_zero, List.drop_succ_cons, List.drop_zero, putAll, Act.put, List.setIfInBounds_toArray, List.set_cons_zero, List.set_cons_succ, e0, e7]
    clear hS Hf e0 e6 e7 o7 n7 K
    go_wp2_with fail
    refine (ascTo_n (moreE x) B q d S n c _).mono ?_
    rintro e w5 ⟨rfl, b5⟩
    replace O7 := Lib.hid (OwL.below EFrmPacket.framed EFrmPacket.inside O7.out b5)
    replace N7 := Lib.hid (N7.out.mono (Nat.le_refl _) b5.size)
    replace HB := Lib.hid (HB.out.trans (b5.mono HB.out.size))
    clear b5
    go_wp2
    go_ret
    exact ⟨_, _, _, _, rfl, O7.out, N7.out, HB.out⟩

set_option maxRecDepth 100000 in
set_option maxHeartbeats 2000000 in
theorem ascTick_a5 (x : DAscEnd) (B : Option Addr) (q d : Nat) (w : World) (hs : x.xState = 5) (h0 : ¬ x.xLeft = 0) (h1 : ¬ 0 < x.xLeft - 1) (h3 : 1 ≤ x.xLeft) (h4 : ¬ x.xTries = 4) (h5 : 0 ≤ x.xTries) (h6 : x.xTries ≤ 4) : Calls Try.prog 165 #[.agg #[.int .i64 x.xMe, .int .i64 x.xPeer, .int .i64 x.xSecret, .int .i64 x.xWish, .int .i64 x.xLast, .int .i64 x.xState, .int .i64 x.xTag, .int .i64 x.xPeerTag, .int .i64 x.xTsn, .int .i64 x.xPeerTsn, .int .i64 x.xStreams, .slice B q d, .int .i64 x.xTries, .int .i64 x.xLeft]] w fun e w' => ∃ S n c f, e = .returned (.iface 268 (.agg #[.int .i64 x.xMe, .int .i64 x.xPeer, .int .i64 x.xSecret, .int .i64 x.xWish, .int .i64 x.xLast, .int .i64 x.xState, .int .i64 x.xTag, .int .i64 x.xPeerTag, .int .i64 x.xTsn, .int .i64 x.xPeerTsn, .int .i64 x.xStreams, .slice B q d, .int .i64 (x.xTries + 1), .int .i64 3, .slice S n c])) ∧ OwFrmPacketS w' f (.slice S n c) (frameF (moreE x) (moreE x).xPeerTag ackC) ∧ Nw w.heap.size w'.heap.size f ∧ Below w.heap.size w w' := by
  have Hs := Lib.hid hs
  have q0 : (x.xLeft == 0) = false := by simpa using h0
  have q4 : (x.xTries == 4) = false := by simpa using h4
  clear h0 h4 hs
  have HB := Lib.hid ((Below.refl w.heap.size w).alloc (Nat.le_refl _) (.cells #[.int .i64 x.xMe, .int .i64 x.xPeer, .int .i64 x.xSecret, .int .i64 x.xWish, .int .i64 x.xLast, .int .i64 x.xState, .int .i64 x.xTag, .int .i64 x.xPeerTag, .int .i64 x.xTsn, .int .i64 x.xPeerTsn, .int .i64 x.xStreams, .slice B q d, .int .i64 (x.xTries + 1), .int .i64 3] 67))
  have K := Lib.hid (Blk.new (w := w) (b := w.heap.size) #[.int .i64 x.xMe, .int .i64 x.xPeer, .int .i64 x.xSecret, .int .i64 x.xWish, .int .i64 x.xLast, .int .i64 x.xState, .int .i64 x.xTag, .int .i64 x.xPeerTag, .int .i64 x.xTsn, .int .i64 x.xPeerTsn, .int .i64 x.xStreams, .slice B q d, .int .i64 (x.xTries + 1), .int .i64 3] 67 rfl)
  go_enter Try.func165, Try.ntmps165
  go_wp2_with fail
  have HB0 := Lib.hid HB.out.size
  clear q0 q4 h1 h3 h5 h6
  generalize World.alloc w _ = w2 at *
  refine wp_region_free 8 (fun y => Below w2.heap.size w2 y) (fun vals i v y f => match i with | 0 => v = .agg #[.int .i64 x.xMe, .int .i64 x.xPeer, .int .i64 x.xSecret, .int .i64 x.xWish, .int .i64 x.xLast, .int .i64 x.xState, .int .i64 x.xTag, .int .i64 x.xPeerTag, .int .i64 x.xTsn, .int .i64 x.xPeerTsn, .int .i64 x.xStreams, .slice B q d, .int .i64 (x.xTries + 1), .int .i64 3] ∧ f = [] | 1 => v = .agg #[.func (.func 293) #[] #[], .func (.func 294) #[] #[], .func (.func 295) #[] #[], .func (.func 296) #[] #[], .func (.func 297) #[] #[], .func (.func 162) #[] #[], .func (.func 298) #[] #[], .func (.func 299) #[] #[], .func (.func 300) #[] #[], .func (.func 301) #[] #[], .func (.func 302) #[] #[], .func (.func 295) #[] #[], .func (.func 303) #[] #[], .func (.func 304) #[] #[], .func (.func 154) #[] #[], .func (.func 303) #[] #[], .func (.func 305) #[] #[], .func (.func 306) #[] #[]] | 2 => v = .pointer (some ⟨w.heap.size, 5, none⟩) ∧ f = [] | 3 => v = .int .i64 5 ∧ f = [] | 4 => v = .agg #[.func (.func 303) #[] #[], .func (.func 305) #[] #[], .func (.func 306) #[] #[]] ∧ f = [] | 5 => v = .func (.func 306) #[] #[] ∧ f = [] | 6 => v = .agg #[.int .i64 x.xMe, .int .i64 x.xPeer, .int .i64 x.xSecret, .int .i64 x.xWish, .int .i64 x.xLast, .int .i64 x.xState, .int .i64 x.xTag, .int .i64 x.xPeerTag, .int .i64 x.xTsn, .int .i64 x.xPeerTsn, .int .i64 x.xStreams, .slice B q d, .int .i64 (x.xTries + 1), .int .i64 3] ∧ f = [] | 7 => OwL 195 4 EFrmPacket y f v (frameF (moreE x) (moreE x).xPeerTag ackC) | _ => False) (fun i => i) (by kernel_rfl) (by kernel_rfl) ?_ ?_ (Below.refl _ _).drew ?_ ?_
  · intro _ i v y y' f h hb
    match i, h with
    | 0, h => exact h
    | 1, h => exact h
    | 2, h => exact h
    | 3, h => exact h
    | 4, h => exact h
    | 5, h => exact h
    | 6, h => exact h
    | 7, h => exact OwL.below EFrmPacket.framed EFrmPacket.inside h hb
  · intro vals vals' i o v y f ho hd h
    match i, h with
    | 0, h => exact h
    | 1, h => exact h
    | 2, h => exact h
    | 3, h => exact h
    | 4, h => exact h
    | 5, h => exact h
    | 6, h => exact h
    | 7, h => exact h
  · intro vals
    simp only [List.take_succ_cons, List.take_zero, Steps]
    refine ⟨?_, ?_, ?_, ?_, ?_, ?_, ?_, ?_, trivial⟩
    · intro y fp0 hS hd
      try simp only [Act.put, List.setIfInBounds_toArray, List.set_cons_zero, List.set_cons_succ]
      exact FreeUpon.pure (.agg #[.int .i64 x.xMe, .int .i64 x.xPeer, .int .i64 x.xSecret, .int .i64 x.xWish, .int .i64 x.xLast, .int .i64 x.xState, .int .i64 x.xTag, .int .i64 x.xPeerTag, .int .i64 x.xTsn, .int .i64 x.xPeerTsn, .int .i64 x.xStreams, .slice B q d, .int .i64 (x.xTries + 1), .int .i64 3]) (exec_load_blk 67 (.tmp 1) rfl (K.out.keep hS) rfl _ Try.underlying67 rfl isz_AscEnd) ⟨rfl, rfl⟩ hS
    · intro y fp0 hS hd
      try simp only [Act.put, List.setIfInBounds_toArray, List.set_cons_zero, List.set_cons_succ]
      refine FreeUpon.call (g := 237) (args := #[]) ?_ ((ascStates_any y).mono fun e y' ⟨he, h3⟩ => ⟨_, [], he, rfl, Nw.nil _ _, h3, hS.trans (h3.mono hS.size)⟩)
      go_simp
    · intro y fp0 hS hd
      try simp only [Act.put, List.setIfInBounds_toArray, List.set_cons_zero, List.set_cons_succ]
      refine FreeUpon.pure (.pointer (some ⟨w.heap.size, 5, none⟩)) ?_ ⟨rfl, rfl⟩ hS
      go_simp
    · intro y fp0 hS hd
      try simp only [Act.put, List.setIfInBounds_toArray, List.set_cons_zero, List.set_cons_succ]
      obtain ⟨⟨hp2, _⟩, _⟩ := hd { on := 2, ground := Ground.data } (by simp) (by kernel_rfl)
      simp only at hp2
      have kk := (K.out.keep hS).at (i := 5) rfl
      rw [Hs.out] at kk
      refine FreeUpon.pure (.int .i64 5) ?_ ⟨rfl, rfl⟩ hS
      go_simp
    · intro y fp0 hS hd
      try simp only [Act.put, List.setIfInBounds_toArray, List.set_cons_zero, List.set_cons_succ]
      have hp1 : vals 1 = .agg #[.func (.func 293) #[] #[], .func (.func 294) #[] #[], .func (.func 295) #[] #[], .func (.func 296) #[] #[], .func (.func 297) #[] #[], .func (.func 162) #[] #[], .func (.func 298) #[] #[], .func (.func 299) #[] #[], .func (.func 300) #[] #[], .func (.func 301) #[] #[], .func (.func 302) #[] #[], .func (.func 295) #[] #[], .func (.func 303) #[] #[], .func (.func 304) #[] #[], .func (.func 154) #[] #[], .func (.func 303) #[] #[], .func (.func 305) #[] #[], .func (.func 306) #[] #[]] := (hd { on := 1, ground := Ground.data } (by simp) (by kernel_rfl)).1
      obtain ⟨⟨hp3, _⟩, _⟩ := hd { on := 3, ground := Ground.data } (by simp) (by kernel_rfl)
      simp only at hp3
      refine FreeUpon.pure (.agg #[.func (.func 303) #[] #[], .func (.func 305) #[] #[], .func (.func 306) #[] #[]]) ?_ ⟨rfl, rfl⟩ hS
      rw [hp1, hp3]
      kernel_rfl
    · intro y fp0 hS hd
      try simp only [Act.put, List.setIfInBounds_toArray, List.set_cons_zero, List.set_cons_succ]
      obtain ⟨⟨hp4, _⟩, _⟩ := hd { on := 4, ground := Ground.data } (by simp) (by kernel_rfl)
      simp only at hp4
      refine FreeUpon.pure (.func (.func 306) #[] #[]) ?_ ⟨rfl, rfl⟩ hS
      rw [hp4]
      kernel_rfl
    · intro y fp0 hS hd
      try simp only [Act.put, List.setIfInBounds_toArray, List.set_cons_zero, List.set_cons_succ]
      exact FreeUpon.pure (.agg #[.int .i64 x.xMe, .int .i64 x.xPeer, .int .i64 x.xSecret, .int .i64 x.xWish, .int .i64 x.xLast, .int .i64 x.xState, .int .i64 x.xTag, .int .i64 x.xPeerTag, .int .i64 x.xTsn, .int .i64 x.xPeerTsn, .int .i64 x.xStreams, .slice B q d, .int .i64 (x.xTries + 1), .int .i64 3]) (exec_load_blk 67 (.tmp 1) rfl (K.out.keep hS) rfl _ Try.underlying67 rfl isz_AscEnd) ⟨rfl, rfl⟩ hS
    · intro y fp0 hS hd
      try simp only [Act.put, List.setIfInBounds_toArray, List.set_cons_zero, List.set_cons_succ]
      obtain ⟨⟨hp5, _⟩, _⟩ := hd { on := 5, ground := Ground.data } (by simp) (by kernel_rfl)
      simp only at hp5
      obtain ⟨⟨hp6, _⟩, _⟩ := hd { on := 6, ground := Ground.data } (by simp) (by kernel_rfl)
      simp only at hp6
      refine FreeUpon.call (g := 306) (args := #[.agg #[.int .i64 x.xMe, .int .i64 x.xPeer, .int .i64 x.xSecret, .int .i64 x.xWish, .int .i64 x.xLast, .int .i64 x.xState, .int .i64 x.xTag, .int .i64 x.xPeerTag, .int .i64 x.xTsn, .int .i64 x.xPeerTsn, .int .i64 x.xStreams, .slice B q d, .int .i64 (x.xTries + 1), .int .i64 3]]) ?_ ((ascShutAck_n (moreE x) (.slice B q d) y).mono fun e y' ⟨v', f', he, h1, h2, h3⟩ => ⟨v', f', he, h1, h2, h3, hS.trans (h3.mono hS.size)⟩)
      go_simp
  · intro vals fp y hS hb hf
    have Hf := Lib.hid hf
    clear hf hb
    have e0 : vals 0 = .agg #[.int .i64 x.xMe, .int .i64 x.xPeer, .int .i64 x.xSecret, .int .i64 x.xWish, .int .i64 x.xLast, .int .i64 x.xState, .int .i64 x.xTag, .int .i64 x.xPeerTag, .int .i64 x.xTsn, .int .i64 x.xPeerTsn, .int .i64 x.xStreams, .slice B q d, .int .i64 (x.xTries + 1), .int .i64 3] := (Hf.out.1 0 (by omega) rfl).1.1
    have e2 : vals 2 = .pointer (some ⟨w.heap.size, 5, none⟩) := (Hf.out.1 2 (by omega) rfl).1.1
    have e3 : vals 3 = .int .i64 5 := (Hf.out.1 3 (by omega) rfl).1.1
    have e6 : vals 6 = .agg #[.int .i64 x.xMe, .int .i64 x.xPeer, .int .i64 x.xSecret, .int .i64 x.xWish, .int .i64 x.xLast, .int .i64 x.xState, .int .i64 x.xTag, .int .i64 x.xPeerTag, .int .i64 x.xTsn, .int .i64 x.xPeerTsn, .int .i64 x.xStreams, .slice B q d, .int .i64 (x.xTries + 1), .int .i64 3] := (Hf.out.1 6 (by omega) rfl).1.1
    have o7 : OwL 195 4 EFrmPacket y (fp 7) (vals 7) (frameF (moreE x) (moreE x).xPeerTag ackC) := (Hf.out.1 7 (by omega) rfl).1
    have n7 : Nw w2.heap.size y.heap.size (fp 7) := (Hf.out.1 7 (by omega) rfl).2
    have hsl : ∃ S n c, vals 7 = .slice S n c := by obtain ⟨S, c, h⟩ := OwL.slice o7; exact ⟨S, _, c, h⟩
    obtain ⟨S, n, c, e7⟩ := hsl
    rw [e7] at o7
    have O7 := Lib.hid o7
    have N7 := Lib.hid (n7.mono (lo' := w.heap.size) HB0.out (Nat.le_refl _))
    replace HB := Lib.hid (HB.out.trans (hS.mono HB.out.size))
    simp only [List.take_succ_cons, List.take_zero, List.drop_succ_cons, List.drop_zero, putAll, Act.put, List.setIfInBounds_toArray, List.set_cons_zero, List.set_cons_succ, e0, e7]
    clear hS Hf e0 e6 e7 o7 n7 K
    go_wp2_with fail
    refine (ascTo_n (moreE x) B q d S n c _).mono ?_
    rintro e w5 ⟨rfl, b5⟩
    replace O7 := Lib.hid (OwL.below EFrmPacket.framed EFrmPacket.inside O7.out b5)
    replace N7 := Lib.hid (N7.out.mono (Nat.le_refl _) b5.size)
    replace HB := Lib.hid (HB.out.trans (b5.mono HB.out.size))
    clear b5
    go_wp2
    go_ret
    exact ⟨_, _, _, _, rfl, O7.out, N7.out, HB.out⟩
end Go.Proofs.Ythdjjgbjemaabaa
