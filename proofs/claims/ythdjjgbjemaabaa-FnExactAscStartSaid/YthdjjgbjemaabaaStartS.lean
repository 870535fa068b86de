/-
  AscStart of the model. (Written by wip/tools/genstart.py.)
-/
import Derived.Test.YthdjjgbjemaabaaStartF
import Derived.Test.YthdjjgbjemaabaaFree
namespace Go.Proofs.Ythdjjgbjemaabaa
open Go.ChangeShapes Go.WideShapes Go.ChangeAt Go.RowKit
set_option linter.unusedVariables false
set_option linter.unusedSimpArgs false

set_option maxRecDepth 100000 in
set_option maxHeartbeats 4000000 in
theorem specAscStart_p (cs : List Value) (x : DAscEnd) (tag tsn : Int) (w : World) (h : FAscEnd w cs x) (hz : zAscEnd x ≤ 1048576) : Calls Try.prog 57 #[.agg cs.toArray, .int .i64 tag, .int .i64 tsn] w (LinePost w (startE x tag tsn) (startP x tag tsn) (startK x tag tsn)) := by
  have HF := Lib.hid h
  obtain ⟨vk, rfl, h11⟩ := h
  clear h11
  have Hz := Lib.hid (show x.xCookie.length ≤ 1048576 from hz)
  clear hz
  have H_1 := Lib.hid (fun h => start_1 (x := x) (tag := tag) (tsn := tsn) h)
  have H_2 := Lib.hid (fun h => start_2 (x := x) (tag := tag) (tsn := tsn) h)
  have H_3 := Lib.hid (fun h => start_3 (x := x) (tag := tag) (tsn := tsn) h)
  have H_0 := Lib.hid (fun h => start_0 (x := x) (tag := tag) (tsn := tsn) h)
  generalize startE x tag tsn = sE at *
  generalize startP x tag tsn = sP at *
  generalize startK x tag tsn = sK at *
  have K := Lib.hid ((Blk.new (w := w) (b := w.heap.size) #[.int .i64 x.xMe, .int .i64 x.xPeer, .int .i64 x.xSecret, .int .i64 x.xWish, .int .i64 x.xLast, .int .i64 x.xState, .int .i64 x.xTag, .int .i64 x.xPeerTag, .int .i64 x.xTsn, .int .i64 x.xPeerTsn, .int .i64 x.xStreams, vk, .int .i64 x.xTries, .int .i64 x.xLeft] 67 rfl).alloc (.cells #[.int .i64 0, .int .i64 0, .int .i64 0, .int .i64 0, .int .i64 0, .int .i64 0, .int .i64 0, .int .i64 0, .int .i64 0, .int .i64 0, .int .i64 0, .slice none 0 0, .int .i64 0, .int .i64 0] 67))
  have R := Lib.hid (Blk.new (w := (w.alloc (.cells #[.int .i64 x.xMe, .int .i64 x.xPeer, .int .i64 x.xSecret, .int .i64 x.xWish, .int .i64 x.xLast, .int .i64 x.xState, .int .i64 x.xTag, .int .i64 x.xPeerTag, .int .i64 x.xTsn, .int .i64 x.xPeerTsn, .int .i64 x.xStreams, vk, .int .i64 x.xTries, .int .i64 x.xLeft] 67))) (b := w.heap.size + 1) #[.int .i64 0, .int .i64 0, .int .i64 0, .int .i64 0, .int .i64 0, .int .i64 0, .int .i64 0, .int .i64 0, .int .i64 0, .int .i64 0, .int .i64 0, .slice none 0 0, .int .i64 0, .int .i64 0] 67 (by simp))
  have HB := Lib.hid (((Below.refl w.heap.size w).alloc (Nat.le_refl _) (.cells #[.int .i64 x.xMe, .int .i64 x.xPeer, .int .i64 x.xSecret, .int .i64 x.xWish, .int .i64 x.xLast, .int .i64 x.xState, .int .i64 x.xTag, .int .i64 x.xPeerTag, .int .i64 x.xTsn, .int .i64 x.xPeerTsn, .int .i64 x.xStreams, vk, .int .i64 x.xTries, .int .i64 x.xLeft] 67)).alloc (by simp) (.cells #[.int .i64 0, .int .i64 0, .int .i64 0, .int .i64 0, .int .i64 0, .int .i64 0, .int .i64 0, .int .i64 0, .int .i64 0, .int .i64 0, .int .i64 0, .slice none 0 0, .int .i64 0, .int .i64 0] 67))
  have Z0 := Lib.hid (show w.heap.size + 2 = ((w.alloc (.cells #[.int .i64 x.xMe, .int .i64 x.xPeer, .int .i64 x.xSecret, .int .i64 x.xWish, .int .i64 x.xLast, .int .i64 x.xState, .int .i64 x.xTag, .int .i64 x.xPeerTag, .int .i64 x.xTsn, .int .i64 x.xPeerTsn, .int .i64 x.xStreams, vk, .int .i64 x.xTries, .int .i64 x.xLeft] 67)).alloc (.cells #[.int .i64 0, .int .i64 0, .int .i64 0, .int .i64 0, .int .i64 0, .int .i64 0, .int .i64 0, .int .i64 0, .int .i64 0, .int .i64 0, .int .i64 0, .slice none 0 0, .int .i64 0, .int .i64 0] 67)).heap.size by simp)
  go_enter Try.func57, Try.ntmps57
  go_wp2_with (refine wpList_load_blk rfl 67 (.tmp 3) rfl K.out rfl _ Try.underlying67 rfl isz_AscEnd ?_)
  refine (specAscEndOk_r _ x _ (HF.out.below HB.out)).mono ?_
  rintro e w1 ⟨rfl, b1⟩
  replace K := Lib.hid (K.out.keep b1)
  replace R := Lib.hid (R.out.keep b1)
  replace HB := Lib.hid (HB.out.trans (b1.mono HB.out.size))
  have Z1 := Lib.hid (show w.heap.size + 2 ≤ w1.heap.size by have := b1.size; have := Z0.out; omega)
  clear b1
  rcases hok : ascOk x with _ | _
  · obtain ⟨he, hp, hk⟩ := H_1.out hok
    have HE := Lib.hid he
    have HP := Lib.hid hp
    have HK := Lib.hid hk
    clear he hp hk
    go_wp2_with fail
    refine (l6None_n _).mono ?_
    rintro e w2 ⟨v', f, rfl, o2, n2, b2⟩
    have O2 := Lib.hid o2
    have N2 := Lib.hid n2
    replace R := Lib.hid (R.out.keep b2)
    replace HB := Lib.hid (HB.out.trans (b2.mono HB.out.size))
    clear o2 n2 b2
    go_wp2_with (refine wpList_store_blk rfl 67 (.tmp 6) (.tmp 13) rfl R.out _ rfl rfl rfl isz_AscEnd (by kernel_rfl) ?_; intro w9 kk9 ff9 ss9)
    refine bodyPost_ret (v := .tuple #[.agg #[.int .i64 0, .int .i64 0, .int .i64 0, .int .i64 0, .int .i64 0, .int .i64 0, .int .i64 0, .int .i64 0, .int .i64 0, .int .i64 0, .int .i64 0, .slice none 0 0, .int .i64 0, .int .i64 0], v', .int .i64 1]) (results_row3 rfl rfl rfl rfl (load_blk 67 kk9 _ Try.underlying67 rfl isz_AscEnd)) rfl ?_
    refine ⟨_, v', [], f, by rw [HK.out], by rw [HE.out]; exact EAscEnd.nil _ zeroEnd rfl, by rw [HP.out]; exact OwL.frl EFrmPacket.framed EFrmPacket.inside O2.out ff9 (fun b hb => by have := (N2.out.2 b hb).1; have := Z1.out; simp; omega), ?_, below_frl1 HB.out (Nat.le_refl _) ff9 (by omega)⟩
    rw [List.nil_append, ss9]
    exact N2.out.mono (by have := Z1.out; omega) (Nat.le_refl _)
  go_wp2_with (refine wpList_load_blk rfl 67 (.tmp 3) rfl K.out rfl _ Try.underlying67 rfl isz_AscEnd ?_)
  refine (l6Copy_n _ x _ (HF.out.below HB.out) Hz.out).mono ?_
  rintro e w2 ⟨cx, gx, rfl, ex, nx, b2⟩
  obtain ⟨vx, gx', rfl, ox, hgx⟩ := ex
  obtain rfl := hgx
  obtain ⟨B, d, rfl⟩ := ox.rd.slice
  have NX := Lib.hid (nx.mono (lo' := w.heap.size + 2) Z1.out (Nat.le_refl _))
  have bX := (Below.refl w2.heap.size w2).alloc (Nat.le_refl _) (.cells #[.int .i64 x.xMe, .int .i64 x.xPeer, .int .i64 x.xSecret, .int .i64 x.xWish, .int .i64 x.xLast, .int .i64 x.xState, .int .i64 x.xTag, .int .i64 x.xPeerTag, .int .i64 x.xTsn, .int .i64 x.xPeerTsn, .int .i64 x.xStreams, .slice B x.xCookie.length d, .int .i64 x.xTries, .int .i64 x.xLeft] 67)
  have OX := Lib.hid (ox.below bX)
  have X := Lib.hid (Blk.new (w := w2) (b := w2.heap.size) #[.int .i64 x.xMe, .int .i64 x.xPeer, .int .i64 x.xSecret, .int .i64 x.xWish, .int .i64 x.xLast, .int .i64 x.xState, .int .i64 x.xTag, .int .i64 x.xPeerTag, .int .i64 x.xTsn, .int .i64 x.xPeerTsn, .int .i64 x.xStreams, .slice B x.xCookie.length d, .int .i64 x.xTries, .int .i64 x.xLeft] 67 rfl)
  have Rw := Lib.hid (R.out.keep b2)
  have OXw := Lib.hid ox
  have HBw := Lib.hid (HB.out.trans (b2.mono HB.out.size))
  replace K := Lib.hid ((K.out.keep b2).keep bX)
  replace R := Lib.hid ((R.out.keep b2).keep bX)
  have Z2 := Lib.hid (show w.heap.size + 2 ≤ w2.heap.size from Nat.le_trans Z1.out b2.size)
  replace HB := Lib.hid ((HB.out.trans (b2.mono HB.out.size)).trans (bX.mono (by have := Z2.out; omega)))
  have Z3 := Lib.hid (show w2.heap.size + 1 = (w2.alloc (.cells #[.int .i64 x.xMe, .int .i64 x.xPeer, .int .i64 x.xSecret, .int .i64 x.xWish, .int .i64 x.xLast, .int .i64 x.xState, .int .i64 x.xTag, .int .i64 x.xPeerTag, .int .i64 x.xTsn, .int .i64 x.xPeerTsn, .int .i64 x.xStreams, .slice B x.xCookie.length d, .int .i64 x.xTries, .int .i64 x.xLeft] 67)).heap.size by simp)
  clear ox nx b2 bX Z0
  rcases ht : tagA x.xLast tag with _ | _
  · have h2 : (tagA x.xLast tag && inB tsn 0 4294967295) = false := by rw [ht]; rfl
    obtain ⟨he, hp, hk⟩ := H_2.out hok h2
    have HE := Lib.hid he
    have HP := Lib.hid hp
    have HK := Lib.hid hk
    clear he hp hk
    go_wp2_with (first | (refine wpList_store_new _ rfl 67 (.tmp 9) (.tmp 16) rfl rfl rfl isz_AscEnd rfl (by kernel_rfl) ?_) | (refine wpList_load_blk rfl 67 (.tmp 3) rfl K.out rfl _ Try.underlying67 rfl isz_AscEnd ?_))
    refine (l6Tag_any _ _ _ _ _ _ _ _ _ _ _ _ _ _ _ _).mono ?_
    rintro e w3 ⟨rfl, b3⟩
    rw [ht]
    have ZW := Lib.hid (show w2.heap.size + 1 ≤ w3.heap.size by have := b3.size; have := Z3.out; omega)
    replace K := Lib.hid (K.out.keep b3)
    replace R := Lib.hid (R.out.keep b3)
    replace X := Lib.hid (X.out.keep b3)
    replace OX := Lib.hid (OX.out.below b3)
    replace HB := Lib.hid (HB.out.trans (b3.mono HB.out.size))
    clear b3
    go_wp2_with fail
    refine wp_region_free 2 (fun y => Below w3.heap.size w3 y) (fun vals i v y f => match i with | 0 => v = .agg #[.int .i64 x.xMe, .int .i64 x.xPeer, .int .i64 x.xSecret, .int .i64 x.xWish, .int .i64 x.xLast, .int .i64 x.xState, .int .i64 x.xTag, .int .i64 x.xPeerTag, .int .i64 x.xTsn, .int .i64 x.xPeerTsn, .int .i64 x.xStreams, .slice B x.xCookie.length d, .int .i64 x.xTries, .int .i64 x.xLeft] ∧ f = [] | 1 => OwL 195 4 EFrmPacket y f v [] | _ => False) (fun i => i) (by kernel_rfl) (by kernel_rfl) ?_ ?_ (Below.refl _ _).drew ?_ ?_
    · intro _ i v y y' f h hb
      match i, h with
      | 0, h => exact h
      | 1, h => exact OwL.below EFrmPacket.framed EFrmPacket.inside h hb
    · intro vals vals' i o v y f ho hd h
      match i, h with
      | 0, h => exact h
      | 1, h => exact h
    · intro vals
      simp only [List.take_succ_cons, List.take_zero, Steps]
      refine ⟨?_, ?_, trivial⟩
      · intro y fp0 hS hd
        try simp only [Act.put, List.setIfInBounds_toArray, List.set_cons_zero, List.set_cons_succ]
        exact FreeUpon.pure (.agg #[.int .i64 x.xMe, .int .i64 x.xPeer, .int .i64 x.xSecret, .int .i64 x.xWish, .int .i64 x.xLast, .int .i64 x.xState, .int .i64 x.xTag, .int .i64 x.xPeerTag, .int .i64 x.xTsn, .int .i64 x.xPeerTsn, .int .i64 x.xStreams, .slice B x.xCookie.length d, .int .i64 x.xTries, .int .i64 x.xLeft]) (exec_load_blk 67 (.tmp 9) rfl (X.out.keep hS) rfl _ Try.underlying67 rfl isz_AscEnd) ⟨rfl, rfl⟩ hS
      · intro y fp0 hS hd
        try simp only [Act.put, List.setIfInBounds_toArray, List.set_cons_zero, List.set_cons_succ]
        refine FreeUpon.call (g := 143) (args := #[]) ?_ ((l6None_n y).mono fun e y' ⟨v', f', he, h1, h2, h3⟩ => ⟨v', f', he, h1, h2, h3, hS.trans (h3.mono hS.size)⟩)
        go_simp
    · intro vals fp y hS hb hf
      have Hf := Lib.hid hf
      clear hf hb
      have e0 : vals 0 = .agg #[.int .i64 x.xMe, .int .i64 x.xPeer, .int .i64 x.xSecret, .int .i64 x.xWish, .int .i64 x.xLast, .int .i64 x.xState, .int .i64 x.xTag, .int .i64 x.xPeerTag, .int .i64 x.xTsn, .int .i64 x.xPeerTsn, .int .i64 x.xStreams, .slice B x.xCookie.length d, .int .i64 x.xTries, .int .i64 x.xLeft] := (Hf.out.1 0 (by omega) rfl).1.1
      have o1 : OwL 195 4 EFrmPacket y (fp 1) (vals 1) [] := (Hf.out.1 1 (by omega) rfl).1
      have n1 : Nw w3.heap.size y.heap.size (fp 1) := (Hf.out.1 1 (by omega) rfl).2
      have O1 := Lib.hid o1
      have N1 := Lib.hid n1
      replace R := Lib.hid (R.out.keep hS)
      replace HB := Lib.hid (HB.out.trans (hS.mono HB.out.size))
      replace OX := Lib.hid (OX.out.below hS)
      have ZY := Lib.hid hS.size
      simp only [List.take_succ_cons, List.take_zero, List.drop_succ_cons, List.drop_zero, putAll, Act.put, List.setIfInBounds_toArray, List.set_cons_zero, List.set_cons_succ, e0]
      clear hS Hf e0 o1 n1
      go_wp2_with (refine wpList_store_blk rfl 67 (.tmp 6) (.tmp 26) rfl R.out _ rfl rfl rfl isz_AscEnd (by kernel_rfl) ?_; intro w9 kk9 ff9 ss9)
      refine bodyPost_ret (v := .tuple #[.agg #[.int .i64 x.xMe, .int .i64 x.xPeer, .int .i64 x.xSecret, .int .i64 x.xWish, .int .i64 x.xLast, .int .i64 x.xState, .int .i64 x.xTag, .int .i64 x.xPeerTag, .int .i64 x.xTsn, .int .i64 x.xPeerTsn, .int .i64 x.xStreams, .slice B x.xCookie.length d, .int .i64 x.xTries, .int .i64 x.xLeft], vals 1, .int .i64 2]) (results_row3 rfl rfl rfl rfl (load_blk 67 kk9 _ Try.underlying67 rfl isz_AscEnd)) rfl ?_
      refine ⟨_, vals 1, gx, fp 1, by rw [HK.out], by rw [HE.out]; exact ⟨_, _, rfl, OX.out.frl ff9 (fun b hb => by have := (NX.out.2 b hb).1; simp; omega), rfl⟩, by rw [HP.out]; exact OwL.frl EFrmPacket.framed EFrmPacket.inside O1.out ff9 (fun b hb => by have := (N1.out.2 b hb).1; have := ZW.out; have := Z2.out; simp; omega), ?_, below_frl1 HB.out (Nat.le_refl _) ff9 (by omega)⟩
      rw [ss9]
      exact (NX.out.mono (lo' := w.heap.size) (by omega) (Nat.le_refl _)).app (N1.out.mono (by have := ZW.out; omega) (Nat.le_refl _)) (by have := Z2.out; omega) (by have := ZW.out; have := ZY.out; omega)
  go_wp2_with (first | (refine wpList_store_new _ rfl 67 (.tmp 9) (.tmp 16) rfl rfl rfl isz_AscEnd rfl (by kernel_rfl) ?_) | (refine wpList_load_blk rfl 67 (.tmp 3) rfl K.out rfl _ Try.underlying67 rfl isz_AscEnd ?_))
  refine (l6Tag_any _ _ _ _ _ _ _ _ _ _ _ _ _ _ _ _).mono ?_
  rintro e w3 ⟨rfl, b3⟩
  rw [ht]
  have ZW := Lib.hid (show w2.heap.size + 1 ≤ w3.heap.size by have := b3.size; have := Z3.out; omega)
  replace K := Lib.hid (K.out.keep b3)
  replace R := Lib.hid (R.out.keep b3)
  replace X := Lib.hid (X.out.keep b3)
  replace OX := Lib.hid (OX.out.below b3)
  replace HB := Lib.hid (HB.out.trans (b3.mono HB.out.size))
  clear b3
  rcases hn : inB tsn 0 4294967295 with _ | _
  · have h2 : (tagA x.xLast tag && inB tsn 0 4294967295) = false := by rw [ht, hn]; rfl
    obtain ⟨he, hp, hk⟩ := H_2.out hok h2
    have HE := Lib.hid he
    have HP := Lib.hid hp
    have HK := Lib.hid hk
    clear he hp hk
    go_wp2_with (go_at_call 145; refine (l4Long_any _ _).mono ?_; rintro e w' ⟨rfl, rfl⟩; rw [hn])
    refine wp_region_free 2 (fun y => Below w3.heap.size w3 y) (fun vals i v y f => match i with | 0 => v = .agg #[.int .i64 x.xMe, .int .i64 x.xPeer, .int .i64 x.xSecret, .int .i64 x.xWish, .int .i64 x.xLast, .int .i64 x.xState, .int .i64 x.xTag, .int .i64 x.xPeerTag, .int .i64 x.xTsn, .int .i64 x.xPeerTsn, .int .i64 x.xStreams, .slice B x.xCookie.length d, .int .i64 x.xTries, .int .i64 x.xLeft] ∧ f = [] | 1 => OwL 195 4 EFrmPacket y f v [] | _ => False) (fun i => i) (by kernel_rfl) (by kernel_rfl) ?_ ?_ (Below.refl _ _).drew ?_ ?_
    · intro _ i v y y' f h hb
      match i, h with
      | 0, h => exact h
      | 1, h => exact OwL.below EFrmPacket.framed EFrmPacket.inside h hb
    · intro vals vals' i o v y f ho hd h
      match i, h with
      | 0, h => exact h
      | 1, h => exact h
    · intro vals
      simp only [List.take_succ_cons, List.take_zero, Steps]
      refine ⟨?_, ?_, trivial⟩
      · intro y fp0 hS hd
        try simp only [Act.put, List.setIfInBounds_toArray, List.set_cons_zero, List.set_cons_succ]
        exact FreeUpon.pure (.agg #[.int .i64 x.xMe, .int .i64 x.xPeer, .int .i64 x.xSecret, .int .i64 x.xWish, .int .i64 x.xLast, .int .i64 x.xState, .int .i64 x.xTag, .int .i64 x.xPeerTag, .int .i64 x.xTsn, .int .i64 x.xPeerTsn, .int .i64 x.xStreams, .slice B x.xCookie.length d, .int .i64 x.xTries, .int .i64 x.xLeft]) (exec_load_blk 67 (.tmp 9) rfl (X.out.keep hS) rfl _ Try.underlying67 rfl isz_AscEnd) ⟨rfl, rfl⟩ hS
      · intro y fp0 hS hd
        try simp only [Act.put, List.setIfInBounds_toArray, List.set_cons_zero, List.set_cons_succ]
        refine FreeUpon.call (g := 143) (args := #[]) ?_ ((l6None_n y).mono fun e y' ⟨v', f', he, h1, h2, h3⟩ => ⟨v', f', he, h1, h2, h3, hS.trans (h3.mono hS.size)⟩)
        go_simp
    · intro vals fp y hS hb hf
      have Hf := Lib.hid hf
      clear hf hb
      have e0 : vals 0 = .agg #[.int .i64 x.xMe, .int .i64 x.xPeer, .int .i64 x.xSecret, .int .i64 x.xWish, .int .i64 x.xLast, .int .i64 x.xState, .int .i64 x.xTag, .int .i64 x.xPeerTag, .int .i64 x.xTsn, .int .i64 x.xPeerTsn, .int .i64 x.xStreams, .slice B x.xCookie.length d, .int .i64 x.xTries, .int .i64 x.xLeft] := (Hf.out.1 0 (by omega) rfl).1.1
      have o1 : OwL 195 4 EFrmPacket y (fp 1) (vals 1) [] := (Hf.out.1 1 (by omega) rfl).1
      have n1 : Nw w3.heap.size y.heap.size (fp 1) := (Hf.out.1 1 (by omega) rfl).2
      have O1 := Lib.hid o1
      have N1 := Lib.hid n1
      replace R := Lib.hid (R.out.keep hS)
      replace HB := Lib.hid (HB.out.trans (hS.mono HB.out.size))
      replace OX := Lib.hid (OX.out.below hS)
      have ZY := Lib.hid hS.size
      simp only [List.take_succ_cons, List.take_zero, List.drop_succ_cons, List.drop_zero, putAll, Act.put, List.setIfInBounds_toArray, List.set_cons_zero, List.set_cons_succ, e0]
      clear hS Hf e0 o1 n1
      go_wp2_with (refine wpList_store_blk rfl 67 (.tmp 6) (.tmp 26) rfl R.out _ rfl rfl rfl isz_AscEnd (by kernel_rfl) ?_; intro w9 kk9 ff9 ss9)
      refine bodyPost_ret (v := .tuple #[.agg #[.int .i64 x.xMe, .int .i64 x.xPeer, .int .i64 x.xSecret, .int .i64 x.xWish, .int .i64 x.xLast, .int .i64 x.xState, .int .i64 x.xTag, .int .i64 x.xPeerTag, .int .i64 x.xTsn, .int .i64 x.xPeerTsn, .int .i64 x.xStreams, .slice B x.xCookie.length d, .int .i64 x.xTries, .int .i64 x.xLeft], vals 1, .int .i64 2]) (results_row3 rfl rfl rfl rfl (load_blk 67 kk9 _ Try.underlying67 rfl isz_AscEnd)) rfl ?_
      refine ⟨_, vals 1, gx, fp 1, by rw [HK.out], by rw [HE.out]; exact ⟨_, _, rfl, OX.out.frl ff9 (fun b hb => by have := (NX.out.2 b hb).1; simp; omega), rfl⟩, by rw [HP.out]; exact OwL.frl EFrmPacket.framed EFrmPacket.inside O1.out ff9 (fun b hb => by have := (N1.out.2 b hb).1; have := ZW.out; have := Z2.out; simp; omega), ?_, below_frl1 HB.out (Nat.le_refl _) ff9 (by omega)⟩
      rw [ss9]
      exact (NX.out.mono (lo' := w.heap.size) (by omega) (Nat.le_refl _)).app (N1.out.mono (by have := ZW.out; omega) (Nat.le_refl _)) (by have := Z2.out; omega) (by have := ZW.out; have := ZY.out; omega)
  have h2 : (tagA x.xLast tag && inB tsn 0 4294967295) = true := by rw [ht, hn]; rfl
  have k5 := K.out.at (i := 5) rfl
  by_cases h0 : x.xState = 0
  · have hb0 : (x.xState != 0) = false := by simp [h0]
    obtain ⟨he, hp, hk⟩ := H_0.out hok h2 h0
    have HE := Lib.hid he
    have HP := Lib.hid hp
    have HK := Lib.hid hk
    clear he hp hk
    clear h0
    have c5 := X.out.at (i := 5) rfl
    have z5 := X.out.frozen 5
    have c6 := X.out.at (i := 6) rfl
    have z6 := X.out.frozen 6
    have c8 := X.out.at (i := 8) rfl
    have z8 := X.out.frozen 8
    have c13 := X.out.at (i := 13) rfl
    have z13 := X.out.frozen 13
    have X2 := Lib.hid ((((X.out.set (i := 5) (v := .int .i64 1) (by simp)).set (i := 6) (v := .int .i64 tag) (by simp)).set (i := 8) (v := .int .i64 tsn) (by simp)).set (i := 13) (v := .int .i64 3) (by simp))
    simp only [List.set_cons_succ, List.set_cons_zero] at X2
    have hxr : w2.heap.size ≠ w.heap.size + 1 := by have := Z2.out; omega
    have R2 := Lib.hid ((((R.out.far (b' := w2.heap.size) (o := 5) (v := .int .i64 1) hxr).far (b' := w2.heap.size) (o := 6) (v := .int .i64 tag) hxr).far (b' := w2.heap.size) (o := 8) (v := .int .i64 tsn) hxr).far (b' := w2.heap.size) (o := 13) (v := .int .i64 3) hxr)
    have hg : w2.heap.size ∉ gx := fun h => by have := (NX.out.2 _ h).2; omega
    have O2 := Lib.hid ((((OX.out.set (g := w2.heap.size) (o := 5) (u := .int .i64 1) hg).set (g := w2.heap.size) (o := 6) (u := .int .i64 tag) hg).set (g := w2.heap.size) (o := 8) (u := .int .i64 tsn) hg).set (g := w2.heap.size) (o := 13) (u := .int .i64 3) hg)
    have hz2 : w.heap.size ≤ w2.heap.size := by have := Z2.out; omega
    have HB2 := Lib.hid ((((HB.out.setCell (p := ⟨w2.heap.size, 5, none⟩) hz2 (.int .i64 1)).setCell (p := ⟨w2.heap.size, 6, none⟩) hz2 (.int .i64 tag)).setCell (p := ⟨w2.heap.size, 8, none⟩) hz2 (.int .i64 tsn)).setCell (p := ⟨w2.heap.size, 13, none⟩) hz2 (.int .i64 3))
    have ZS := Lib.hid (show ((((w3.setCell ⟨w2.heap.size, 5, none⟩ (.int .i64 1)).setCell ⟨w2.heap.size, 6, none⟩ (.int .i64 tag)).setCell ⟨w2.heap.size, 8, none⟩ (.int .i64 tsn)).setCell ⟨w2.heap.size, 13, none⟩ (.int .i64 3)).heap.size = w3.heap.size by simp only [size_set])
    clear hg hxr hz2 X R OX HB
    go_wp2_with (go_at_call 145; refine (l4Long_any _ _).mono ?_; rintro e w' ⟨rfl, rfl⟩; rw [hn])
    clear c5 z5 c6 z6 c8 z8 c13 z13 k5 K
    generalize World.setCell (World.setCell (World.setCell (World.setCell w3 _ _) _ _) _ _) _ _ = w4 at *
    refine wp_region_free 3 (fun y => Below w4.heap.size w4 y) (fun vals i v y f => match i with | 0 => v = .agg #[.int .i64 x.xMe, .int .i64 x.xPeer, .int .i64 x.xSecret, .int .i64 x.xWish, .int .i64 x.xLast, .int .i64 1, .int .i64 tag, .int .i64 x.xPeerTag, .int .i64 tsn, .int .i64 x.xPeerTsn, .int .i64 x.xStreams, .slice B x.xCookie.length d, .int .i64 x.xTries, .int .i64 3] ∧ f = [] | 1 => v = .agg #[.int .i64 x.xMe, .int .i64 x.xPeer, .int .i64 x.xSecret, .int .i64 x.xWish, .int .i64 x.xLast, .int .i64 1, .int .i64 tag, .int .i64 x.xPeerTag, .int .i64 tsn, .int .i64 x.xPeerTsn, .int .i64 x.xStreams, .slice B x.xCookie.length d, .int .i64 x.xTries, .int .i64 3] ∧ f = [] | 2 => OwL 195 4 EFrmPacket y f v sP | _ => False) (fun i => i) (by kernel_rfl) (by kernel_rfl) ?_ ?_ (Below.refl _ _).drew ?_ ?_
    · intro _ i v y y' f h hb
      match i, h with
      | 0, h => exact h
      | 1, h => exact h
      | 2, h => exact OwL.below EFrmPacket.framed EFrmPacket.inside h hb
    · intro vals vals' i o v y f ho hd h
      match i, h with
      | 0, h => exact h
      | 1, h => exact h
      | 2, h => exact h
    · intro vals
      simp only [List.take_succ_cons, List.take_zero, Steps]
      refine ⟨?_, ?_, ?_, trivial⟩
      · intro y fp0 hS hd
        try simp only [Act.put, List.setIfInBounds_toArray, List.set_cons_zero, List.set_cons_succ]
        exact FreeUpon.pure (.agg #[.int .i64 x.xMe, .int .i64 x.xPeer, .int .i64 x.xSecret, .int .i64 x.xWish, .int .i64 x.xLast, .int .i64 1, .int .i64 tag, .int .i64 x.xPeerTag, .int .i64 tsn, .int .i64 x.xPeerTsn, .int .i64 x.xStreams, .slice B x.xCookie.length d, .int .i64 x.xTries, .int .i64 3]) (exec_load_blk 67 (.tmp 9) rfl (X2.out.keep hS) rfl _ Try.underlying67 rfl isz_AscEnd) ⟨rfl, rfl⟩ hS
      · intro y fp0 hS hd
        try simp only [Act.put, List.setIfInBounds_toArray, List.set_cons_zero, List.set_cons_succ]
        exact FreeUpon.pure (.agg #[.int .i64 x.xMe, .int .i64 x.xPeer, .int .i64 x.xSecret, .int .i64 x.xWish, .int .i64 x.xLast, .int .i64 1, .int .i64 tag, .int .i64 x.xPeerTag, .int .i64 tsn, .int .i64 x.xPeerTsn, .int .i64 x.xStreams, .slice B x.xCookie.length d, .int .i64 x.xTries, .int .i64 3]) (exec_load_blk 67 (.tmp 9) rfl (X2.out.keep hS) rfl _ Try.underlying67 rfl isz_AscEnd) ⟨rfl, rfl⟩ hS
      · intro y fp0 hS hd
        try simp only [Act.put, List.setIfInBounds_toArray, List.set_cons_zero, List.set_cons_succ]
        obtain ⟨⟨hp1, _⟩, _⟩ := hd { on := 1, ground := Ground.data } (by simp) (by kernel_rfl)
        simp only at hp1
        refine FreeUpon.call (g := 160) (args := #[.agg #[.int .i64 x.xMe, .int .i64 x.xPeer, .int .i64 x.xSecret, .int .i64 x.xWish, .int .i64 x.xLast, .int .i64 1, .int .i64 tag, .int .i64 x.xPeerTag, .int .i64 tsn, .int .i64 x.xPeerTsn, .int .i64 x.xStreams, .slice B x.xCookie.length d, .int .i64 x.xTries, .int .i64 3]]) ?_ ((l6First_n { x with xState := 1, xTag := tag, xTsn := tsn, xLeft := 3 } (.slice B x.xCookie.length d) y).mono fun e y' ⟨v', f', he, h1, h2, h3⟩ => ⟨v', f', he, by rw [HP.out]; exact h1, h2, h3, hS.trans (h3.mono hS.size)⟩)
        go_simp
    · intro vals fp y hS hb hf
      have Hf := Lib.hid hf
      clear hf hb
      have e0 : vals 0 = .agg #[.int .i64 x.xMe, .int .i64 x.xPeer, .int .i64 x.xSecret, .int .i64 x.xWish, .int .i64 x.xLast, .int .i64 1, .int .i64 tag, .int .i64 x.xPeerTag, .int .i64 tsn, .int .i64 x.xPeerTsn, .int .i64 x.xStreams, .slice B x.xCookie.length d, .int .i64 x.xTries, .int .i64 3] := (Hf.out.1 0 (by omega) rfl).1.1
      have e1 : vals 1 = .agg #[.int .i64 x.xMe, .int .i64 x.xPeer, .int .i64 x.xSecret, .int .i64 x.xWish, .int .i64 x.xLast, .int .i64 1, .int .i64 tag, .int .i64 x.xPeerTag, .int .i64 tsn, .int .i64 x.xPeerTsn, .int .i64 x.xStreams, .slice B x.xCookie.length d, .int .i64 x.xTries, .int .i64 3] := (Hf.out.1 1 (by omega) rfl).1.1
      have o1 : OwL 195 4 EFrmPacket y (fp 2) (vals 2) sP := (Hf.out.1 2 (by omega) rfl).1
      have n1 : Nw w4.heap.size y.heap.size (fp 2) := (Hf.out.1 2 (by omega) rfl).2
      have O1 := Lib.hid o1
      have N1 := Lib.hid n1
      replace R2 := Lib.hid (R2.out.keep hS)
      replace HB2 := Lib.hid (HB2.out.trans (hS.mono HB2.out.size))
      replace O2 := Lib.hid (O2.out.below hS)
      have ZY := Lib.hid hS.size
      simp only [List.take_succ_cons, List.take_zero, List.drop_succ_cons, List.drop_zero, putAll, Act.put, List.setIfInBounds_toArray, List.set_cons_zero, List.set_cons_succ, e0, e1]
      clear hS Hf e0 e1 o1 n1
      go_wp2_with (refine wpList_store_blk rfl 67 (.tmp 6) (.tmp 39) rfl R2.out _ rfl rfl rfl isz_AscEnd (by kernel_rfl) ?_; intro w9 kk9 ff9 ss9)
      refine bodyPost_ret (v := .tuple #[.agg #[.int .i64 x.xMe, .int .i64 x.xPeer, .int .i64 x.xSecret, .int .i64 x.xWish, .int .i64 x.xLast, .int .i64 1, .int .i64 tag, .int .i64 x.xPeerTag, .int .i64 tsn, .int .i64 x.xPeerTsn, .int .i64 x.xStreams, .slice B x.xCookie.length d, .int .i64 x.xTries, .int .i64 3], vals 2, .int .i64 0]) (results_row3 rfl rfl rfl rfl (load_blk 67 kk9 _ Try.underlying67 rfl isz_AscEnd)) rfl ?_
      refine ⟨_, vals 2, gx, fp 2, by rw [HK.out], by rw [HE.out]; exact ⟨_, _, rfl, O2.out.frl ff9 (fun b hb => by have := (NX.out.2 b hb).1; simp; omega), rfl⟩, OwL.frl EFrmPacket.framed EFrmPacket.inside O1.out ff9 (fun b hb => by have := (N1.out.2 b hb).1; have := ZW.out; have := ZS.out; have := Z2.out; simp; omega), ?_, below_frl1 HB2.out (Nat.le_refl _) ff9 (by omega)⟩
      rw [ss9]
      exact (NX.out.mono (lo' := w.heap.size) (by omega) (Nat.le_refl _)).app (N1.out.mono (by have := ZW.out; have := ZS.out; omega) (Nat.le_refl _)) (by have := Z2.out; omega) (by have := ZW.out; have := ZS.out; have := ZY.out; omega)
  · have hb0 : (x.xState == 0) = false := by simpa using h0
    obtain ⟨he, hp, hk⟩ := H_3.out hok h2 h0
    have HE := Lib.hid he
    have HP := Lib.hid hp
    have HK := Lib.hid hk
    clear he hp hk
    have hbn : (x.xState != 0) = true := by simp [hb0, bne]
    clear h0
    go_wp2_with (go_at_call 145; refine (l4Long_any _ _).mono ?_; rintro e w' ⟨rfl, rfl⟩; rw [hn])
    clear k5
    refine wp_region_free 2 (fun y => Below w3.heap.size w3 y) (fun vals i v y f => match i with | 0 => v = .agg #[.int .i64 x.xMe, .int .i64 x.xPeer, .int .i64 x.xSecret, .int .i64 x.xWish, .int .i64 x.xLast, .int .i64 x.xState, .int .i64 x.xTag, .int .i64 x.xPeerTag, .int .i64 x.xTsn, .int .i64 x.xPeerTsn, .int .i64 x.xStreams, .slice B x.xCookie.length d, .int .i64 x.xTries, .int .i64 x.xLeft] ∧ f = [] | 1 => OwL 195 4 EFrmPacket y f v [] | _ => False) (fun i => i) (by kernel_rfl) (by kernel_rfl) ?_ ?_ (Below.refl _ _).drew ?_ ?_
    · intro _ i v y y' f h hb
      match i, h with
      | 0, h => exact h
      | 1, h => exact OwL.below EFrmPacket.framed EFrmPacket.inside h hb
    · intro vals vals' i o v y f ho hd h
      match i, h with
      | 0, h => exact h
      | 1, h => exact h
    · intro vals
      simp only [List.take_succ_cons, List.take_zero, Steps]
      refine ⟨?_, ?_, trivial⟩
      · intro y fp0 hS hd
        try simp only [Act.put, List.setIfInBounds_toArray, List.set_cons_zero, List.set_cons_succ]
        exact FreeUpon.pure (.agg #[.int .i64 x.xMe, .int .i64 x.xPeer, .int .i64 x.xSecret, .int .i64 x.xWish, .int .i64 x.xLast, .int .i64 x.xState, .int .i64 x.xTag, .int .i64 x.xPeerTag, .int .i64 x.xTsn, .int .i64 x.xPeerTsn, .int .i64 x.xStreams, .slice B x.xCookie.length d, .int .i64 x.xTries, .int .i64 x.xLeft]) (exec_load_blk 67 (.tmp 9) rfl (X.out.keep hS) rfl _ Try.underlying67 rfl isz_AscEnd) ⟨rfl, rfl⟩ hS
      · intro y fp0 hS hd
        try simp only [Act.put, List.setIfInBounds_toArray, List.set_cons_zero, List.set_cons_succ]
        refine FreeUpon.call (g := 143) (args := #[]) ?_ ((l6None_n y).mono fun e y' ⟨v', f', he, h1, h2, h3⟩ => ⟨v', f', he, h1, h2, h3, hS.trans (h3.mono hS.size)⟩)
        go_simp
    · intro vals fp y hS hb hf
      have Hf := Lib.hid hf
      clear hf hb
      have e0 : vals 0 = .agg #[.int .i64 x.xMe, .int .i64 x.xPeer, .int .i64 x.xSecret, .int .i64 x.xWish, .int .i64 x.xLast, .int .i64 x.xState, .int .i64 x.xTag, .int .i64 x.xPeerTag, .int .i64 x.xTsn, .int .i64 x.xPeerTsn, .int .i64 x.xStreams, .slice B x.xCookie.length d, .int .i64 x.xTries, .int .i64 x.xLeft] := (Hf.out.1 0 (by omega) rfl).1.1
      have o1 : OwL 195 4 EFrmPacket y (fp 1) (vals 1) [] := (Hf.out.1 1 (by omega) rfl).1
      have n1 : Nw w3.heap.size y.heap.size (fp 1) := (Hf.out.1 1 (by omega) rfl).2
      have O1 := Lib.hid o1
      have N1 := Lib.hid n1
      replace R := Lib.hid (R.out.keep hS)
      replace HB := Lib.hid (HB.out.trans (hS.mono HB.out.size))
      replace OX := Lib.hid (OX.out.below hS)
      have ZY := Lib.hid hS.size
      simp only [List.take_succ_cons, List.take_zero, List.drop_succ_cons, List.drop_zero, putAll, Act.put, List.setIfInBounds_toArray, List.set_cons_zero, List.set_cons_succ, e0]
      clear hS Hf e0 o1 n1
      go_wp2_with (refine wpList_store_blk rfl 67 (.tmp 6) (.tmp 31) rfl R.out _ rfl rfl rfl isz_AscEnd (by kernel_rfl) ?_; intro w9 kk9 ff9 ss9)
      refine bodyPost_ret (v := .tuple #[.agg #[.int .i64 x.xMe, .int .i64 x.xPeer, .int .i64 x.xSecret, .int .i64 x.xWish, .int .i64 x.xLast, .int .i64 x.xState, .int .i64 x.xTag, .int .i64 x.xPeerTag, .int .i64 x.xTsn, .int .i64 x.xPeerTsn, .int .i64 x.xStreams, .slice B x.xCookie.length d, .int .i64 x.xTries, .int .i64 x.xLeft], vals 1, .int .i64 3]) (results_row3 rfl rfl rfl rfl (load_blk 67 kk9 _ Try.underlying67 rfl isz_AscEnd)) rfl ?_
      refine ⟨_, vals 1, gx, fp 1, by rw [HK.out], by rw [HE.out]; exact ⟨_, _, rfl, OX.out.frl ff9 (fun b hb => by have := (NX.out.2 b hb).1; simp; omega), rfl⟩, by rw [HP.out]; exact OwL.frl EFrmPacket.framed EFrmPacket.inside O1.out ff9 (fun b hb => by have := (N1.out.2 b hb).1; have := ZW.out; have := Z2.out; simp; omega), ?_, below_frl1 HB.out (Nat.le_refl _) ff9 (by omega)⟩
      rw [ss9]
      exact (NX.out.mono (lo' := w.heap.size) (by omega) (Nat.le_refl _)).app (N1.out.mono (by have := ZW.out; omega) (Nat.le_refl _)) (by have := Z2.out; omega) (by have := ZW.out; have := ZY.out; omega)
end Go.Proofs.Ythdjjgbjemaabaa
