/-
  AspGone and AspRise of the model. (Written by wip/tools/genbookg.py.)
-/
import Derived.Test.YthdjjgbjemaabaaGoneF
namespace Go.Proofs.Ythdjjgbjemaabaa
open Go.ChangeShapes Go.WideShapes Go.ChangeAt Go.RowKit
set_option linter.unusedVariables false
set_option linter.unusedSimpArgs false

set_option maxRecDepth 100000 in
set_option maxHeartbeats 1000000 in
theorem l14At_r (cs : List Value) (x : DAspBook) (gate : Int) (w : World) (h : FAspBook w cs x) : Calls Try.prog 120 #[.agg cs.toArray, .int .i64 gate] w fun e w' => e = .returned (.int .i64 (atI x.xGates gate)) ∧ Below w.heap.size w w' := by
  obtain ⟨v0, v1, rfl, h0, h1⟩ := h
  obtain ⟨A1, q1, rfl⟩ := RdS.slice h1
  have hc1 := RdS.cap h1
  have H1 := Lib.hid h1
  clear h0 h1
  have Hat := Lib.hid (show ∀ j, j < x.xGates.length → ∀ h : j < x.xGates.length, x.xGates[j].xGate = gate → (∀ i (hi : i < x.xGates.length), i < j → ¬ x.xGates[i].xGate = gate) → atI x.xGates gate = (j : Int) from fun j _ hj h1 h2 => by simp [atI, atG_here hj h1 h2])
  have Hno := Lib.hid (show (∀ i (hi : i < x.xGates.length), ¬ x.xGates[i].xGate = gate) → atI x.xGates gate = -1 from fun h => by simp [atI, atG_none h])
  generalize atI x.xGates gate = res at *
  generalize hl1 : x.xGates.length = n1 at H1 hc1
  have Hl1 := Lib.hid hl1
  clear hl1
  have K := Lib.hid (Blk.new (w := w) (b := w.heap.size) #[v0, .slice A1 n1 q1] 38 rfl)
  have HB := Lib.hid ((Below.refl w.heap.size w).alloc (Nat.le_refl _) (.cells #[v0, .slice A1 n1 q1] 38))
  have k1 := K.out.at (i := 1) rfl
  go_enter Try.func120, Try.ntmps120
  go_wp2
  go_loopw [5] (fun i w1 => ∃ j : Nat, j ≤ n1 ∧ i = .int .i64 j ∧ w1 = w.alloc (.cells #[v0, .slice A1 n1 q1] 38) ∧ ∀ i (hi : i < x.xGates.length), i < j → ¬ x.xGates[i].xGate = gate) (fun i _ => n1 - (intOf i).toNat)
  case atStart => exact ⟨0, by omega, rfl, rfl, fun i _ h => by omega⟩
  case round =>
    obtain ⟨j, hj, rfl, rfl, hu⟩ := hrel
    have Hu := Lib.hid hu
    clear hu
    by_cases hlt : j < n1
    · obtain ⟨ad, cs, hk, rfl, hcl, hca, hE⟩ := RdS.at_ (H1.out.below HB.out) hlt
      obtain ⟨u2, u3, u4, rfl, -, -, -⟩ := hE
      have c0 := hca.c0
      clear hca hcl
      by_cases hg : x.xGates[j].xGate = gate
      · have Hr := Lib.hid (Hat.out j hk hk hg Hu.out)
        have hg' : (x.xGates[j].xGate == gate) = true := by simpa using hg
        clear hg
        go_wp2
        go_ret
        exact ⟨retI (by rw [Hr.out]), HB.out⟩
      · have Hg := Lib.hid hg
        have hg' : (x.xGates[j].xGate == gate) = false := by simpa using hg
        clear hg
        go_wp2
        refine ⟨⟨j + 1, by omega, by go_num, by first | rfl | trivial, fun i hi hij => ?_⟩, by simp [intOf]; omega⟩
        by_cases h : i = j
        · subst h; exact Hg.out
        · exact Hu.out i hi (by omega)
    · have Hr := Lib.hid (Hno.out (fun i hi => Hu.out i hi (by have := Hl1.out; omega)))
      go_wp2
      go_ret
      exact ⟨retI (by rw [Hr.out]), HB.out⟩

set_option maxRecDepth 100000 in
set_option maxHeartbeats 1000000 in
theorem specAspGone_p (gate : Int) (cs : List Value) (x : DAspBook) (w : World) (h : FAspBook w cs x) (hz : zAspBook x ≤ 1048576) : Calls Try.prog 34 #[.agg cs.toArray, .int .i64 gate] w (GonePost w x gate) := by
  have HF := Lib.hid h
  have Hz := Lib.hid hz
  obtain ⟨v0, v1, rfl, h0, h1⟩ := h
  clear h0 h1 hz
  have H1 := Lib.hid (fun h => gone_no (x := x) (gate := gate) h)
  have H2 := Lib.hid (fun h h2 => gone_none (x := x) (gate := gate) h h2)
  have H3 := Lib.hid (fun k h h2 => gone_at (x := x) (gate := gate) (k := k) h h2)
  have K := Lib.hid ((Blk.new (w := w) (b := w.heap.size) #[v0, v1] 38 rfl).alloc (.cells #[.slice none 0 0, .slice none 0 0] 38))
  have R := Lib.hid (Blk.new (w := w.alloc (.cells #[v0, v1] 38)) (b := w.heap.size + 1) #[.slice none 0 0, .slice none 0 0] 38 (by simp))
  have HB := Lib.hid (((Below.refl w.heap.size w).alloc (Nat.le_refl _) (.cells #[v0, v1] 38)).alloc (by simp) (.cells #[.slice none 0 0, .slice none 0 0] 38))
  have Z0 := Lib.hid (show w.heap.size + 2 = ((w.alloc (.cells #[v0, v1] 38)).alloc (.cells #[.slice none 0 0, .slice none 0 0] 38)).heap.size by simp)
  go_enter Try.func34, Try.ntmps34
  go_wp2_with (refine wpList_load_blk rfl 38 (.tmp 2) rfl K.out rfl _ Try.underlying38 rfl isz_AspBook ?_)
  refine (specAspOk_r _ x _ (HF.out.below HB.out)).mono ?_
  rintro e w1 ⟨rfl, b1⟩
  replace K := Lib.hid (K.out.keep b1)
  replace R := Lib.hid (R.out.keep b1)
  replace HB := Lib.hid (HB.out.trans (b1.mono HB.out.size))
  have Z1 := Lib.hid (show w.heap.size + 2 ≤ w1.heap.size from Nat.le_trans (Nat.le_of_eq Z0.out) b1.size)
  clear b1 Z0
  rcases hok : aspOk x with _ | _
  · obtain ⟨he, hs⟩ := H1.out hok
    have HE := Lib.hid he
    have HS := Lib.hid hs
    clear he hs
    go_wp2_with (refine wpList_store_blk rfl 38 (.tmp 4) (.tmp 10) rfl R.out _ rfl rfl rfl isz_AspBook (by kernel_rfl) ?_; intro w9 kk9 ff9 ss9)
    refine bodyPost_ret (v := .agg #[.slice none 0 0, .slice none 0 0]) (results_rw1 rfl rfl (load_blk 38 kk9 _ Try.underlying38 rfl isz_AspBook)) rfl ?_
    exact ⟨_, [], rfl, by rw [HE.out]; exact ⟨_, _, [], [], rfl, OwIn.nil _, OwL.nil _, rfl⟩, Nw.nil _ _, below_frl1 HB.out (Nat.le_refl _) ff9 (by omega)⟩
  go_wp2_with (refine wpList_load_blk rfl 38 (.tmp 2) rfl K.out rfl _ Try.underlying38 rfl isz_AspBook ?_)
  refine (l14Copy_n _ x _ (HF.out.below HB.out) Hz.out).mono ?_
  rintro e w2 ⟨cx, fx, rfl, ex, nx, b2⟩
  obtain ⟨x0, x1, g0, g1, rfl, p0, p1, hfx⟩ := ex
  obtain ⟨X0, c0, rfl⟩ := p0.rd.slice
  obtain ⟨X1, c1, rfl⟩ := OwL.slice p1
  subst hfx
  have NX := Lib.hid (nx.mono (lo' := w.heap.size + 2) Z1.out (Nat.le_refl _))
  have bX := (Below.refl w2.heap.size w2).alloc (Nat.le_refl _) (.cells #[.slice X0 x.xWish.length c0, .slice X1 x.xGates.length c1] 38)
  have P0 := Lib.hid (p0.below bX)
  have P1 := Lib.hid (OwL.below EAspGate.framed EAspGate.inside p1 bX)
  have X := Lib.hid (Blk.new (w := w2) (b := w2.heap.size) #[.slice X0 x.xWish.length c0, .slice X1 x.xGates.length c1] 38 rfl)
  replace K := Lib.hid ((K.out.keep b2).keep bX)
  replace R := Lib.hid ((R.out.keep b2).keep bX)
  have Z2 := Lib.hid (show w.heap.size + 2 ≤ w2.heap.size from Nat.le_trans Z1.out b2.size)
  replace HB := Lib.hid ((HB.out.trans (b2.mono HB.out.size)).trans (bX.mono (by have := Z2.out; omega)))
  have Z3 := Lib.hid (show w2.heap.size + 1 = (w2.alloc (.cells #[.slice X0 x.xWish.length c0, .slice X1 x.xGates.length c1] 38)).heap.size by simp)
  clear p0 p1 nx b2 bX
  go_wp2_with (refine wpList_load_blk rfl 38 (.tmp 2) rfl K.out rfl _ Try.underlying38 rfl isz_AspBook ?_)
  refine (l14At_r _ x gate _ (HF.out.below HB.out)).mono ?_
  rintro e w3 ⟨rfl, b3⟩
  have Z4 := Lib.hid (show w2.heap.size + 1 ≤ w3.heap.size from Nat.le_trans (Nat.le_of_eq Z3.out) b3.size)
  replace R := Lib.hid (R.out.keep b3)
  replace X := Lib.hid (X.out.keep b3)
  replace P0 := Lib.hid (P0.out.below b3)
  replace P1 := Lib.hid (OwL.below EAspGate.framed EAspGate.inside P1.out b3)
  replace HB := Lib.hid (HB.out.trans (b3.mono HB.out.size))
  clear b3 K Z3
  rcases hat : atG x.xGates gate with _ | k
  · obtain ⟨he, hs⟩ := H2.out hok hat
    have HE := Lib.hid he
    have HS := Lib.hid hs
    have hi : atI x.xGates gate = -1 := by simp [atI, hat]
    rw [hi]
    clear he hs hi hat
    go_wp2_with (refine wpList_load_blk rfl 38 (.tmp 5) rfl X.out rfl _ Try.underlying38 rfl isz_AspBook ?_)
    refine (l14Copy_n _ x _ ⟨_, _, rfl, P0.out.rd, P1.out.rd (fun _ _ _ h => EAspGate.rd h)⟩ Hz.out).mono ?_
    rintro e w5 ⟨cs', f', rfl, e5, m5, b5⟩
    obtain ⟨y0, y1, u0, u1, rfl, o0, o1, hf'⟩ := e5
    obtain ⟨Y0, s0, rfl⟩ := o0.rd.slice
    obtain ⟨Y1, s1, rfl⟩ := OwL.slice o1
    subst hf'
    have O0 := Lib.hid o0
    have O1 := Lib.hid o1
    have M5 := Lib.hid m5
    replace R := Lib.hid (R.out.keep b5)
    replace HB := Lib.hid (HB.out.trans (b5.mono HB.out.size))
    clear o0 o1 m5 b5
    go_wp2_with (refine wpList_store_blk rfl 38 (.tmp 4) (.tmp 25) rfl R.out _ rfl rfl rfl isz_AspBook (by kernel_rfl) ?_; intro w9 kk9 ff9 ss9)
    refine bodyPost_ret (v := .agg #[.slice Y0 x.xWish.length s0, .slice Y1 x.xGates.length s1]) (results_rw1 rfl rfl (load_blk 38 kk9 _ Try.underlying38 rfl isz_AspBook)) rfl ?_
    have h2 := Z2.out
    have h4 := Z4.out
    exact ⟨_, u0 ++ u1, rfl, by rw [HE.out]; exact ⟨_, _, _, _, rfl, O0.out.frl ff9 (fun b hb => by have := (M5.out.2 b (by simp [hb])).1; simp; omega), OwL.frl EAspGate.framed EAspGate.inside O1.out ff9 (fun b hb => by have := (M5.out.2 b (by simp [hb])).1; simp; omega), rfl⟩, by rw [ss9]; exact M5.out.mono (by omega) (Nat.le_refl _), below_frl1 HB.out (Nat.le_refl _) ff9 (by omega)⟩
  obtain ⟨he, hs⟩ := H3.out k hok hat
  have HE := Lib.hid he
  have HS := Lib.hid hs
  have hi : atI x.xGates gate = (k : Int) := by simp [atI, hat]
  obtain ⟨hkl, hkg⟩ := atG_spec hat
  rw [hi]
  clear he hs hi hat hkg
  generalize hn1 : x.xGates.length = n1 at *
  clear hn1
  obtain ⟨g, rfl⟩ := P1.out.form0 (by omega)
  have hcap := RdS.cap (P1.out.rd (fun _ _ _ h => EAspGate.rd h))
  have Hgm := Lib.hid (OwL.own_mem P1.out g (by simp [Value.ownBlock]))
  have Hgb := Lib.hid (NX.out.2 g (List.mem_append_right _ Hgm.out))
  have Hnd := Lib.hid (List.nodup_append.1 NX.out.1).2.1
  have Hkl := Lib.hid hkl
  have hx1 := X.out.at (i := 1) rfl
  have Hxg := Lib.hid (show w2.heap.size ∉ [g] by have := Hgb.out; simp; omega)
  go_wp2_with (first | (refine wpList_store_elem rfl 153 (.tmp 23) (.tmp 22) rfl EAspGate.framed EAspGate.inside P1.out Hnd.out Hkl.out #[.int .i64 gate, .bool false, .slice none 0 0, .slice none 0 0, .slice none 0 0, .int .i64 0] (f' := []) (x' := zeroG gate) rfl rfl rfl (zeroG_e _ gate) (by simp) (by simp) isz_AspGate (by kernel_rfl) ?_; intro w4 bs4 o4 n4 s4 f4 z4) | (refine wpList_load_blk rfl 38 (.tmp 5) rfl (X.out.frl f4 Hxg.out) rfl _ Try.underlying38 rfl isz_AspBook ?_))
  have hz2 := Z2.out
  have hz4 := Z4.out
  have hgb := Hgb.out
  have R5 := Lib.hid (R.out.frl f4 (by simp; omega))
  have P05 := Lib.hid (P0.out.frl f4 (fun b hb => by have h1 := (List.nodup_append.1 NX.out.1).2.2 b hb; simp only [List.mem_singleton]; rintro rfl; exact h1 _ Hgm.out rfl))
  have HB5 := Lib.hid (HB.out.trans (f4.below (fun b hb => by simp at hb; omega) HB.out.size))
  have HP := Lib.hid o4
  have Z5 := Lib.hid z4
  clear o4 n4 s4 f4 X R P0 HB hgb z4 hx1 hkl
  refine (l14Copy_n _ (goneF x gate) _ ⟨_, _, rfl, by rw [HE.out]; exact P05.out.rd, by rw [HE.out]; exact HP.out.rd (fun _ _ _ h => EAspGate.rd h)⟩ (gone_z x gate Hz.out)).mono ?_
  rintro e w5 ⟨cs', f', rfl, e5, m5, b5⟩
  obtain ⟨y0, y1, u0, u1, rfl, o0, o1, hf'⟩ := e5
  obtain ⟨Y0, s0, rfl⟩ := o0.rd.slice
  obtain ⟨Y1, s1, rfl⟩ := OwL.slice o1
  subst hf'
  have O0 := Lib.hid o0
  have O1 := Lib.hid o1
  have M5 := Lib.hid m5
  have Z6 := Lib.hid (show w3.heap.size ≤ w5.heap.size from Nat.le_trans (Nat.le_of_eq Z5.out.symm) b5.size)
  replace R5 := Lib.hid (R5.out.keep b5)
  replace HB5 := Lib.hid (HB5.out.trans (b5.mono HB5.out.size))
  rw [Z5.out] at M5
  clear o0 o1 m5 b5 HP
  go_wp2_with (refine wpList_store_blk rfl 38 (.tmp 4) (.tmp 25) rfl R5.out _ rfl rfl rfl isz_AspBook (by kernel_rfl) ?_; intro w9 kk9 ff9 ss9)
  refine bodyPost_ret (v := .agg #[.slice Y0 (goneF x gate).xWish.length s0, .slice Y1 (goneF x gate).xGates.length s1]) (results_rw1 rfl rfl (load_blk 38 kk9 _ Try.underlying38 rfl isz_AspBook)) rfl ?_
  have h4 := Z4.out
  exact ⟨_, u0 ++ u1, rfl, ⟨_, _, _, _, rfl, O0.out.frl ff9 (fun b hb => by have := (M5.out.2 b (by simp [hb])).1; simp; omega), OwL.frl EAspGate.framed EAspGate.inside O1.out ff9 (fun b hb => by have := (M5.out.2 b (by simp [hb])).1; simp; omega), rfl⟩, by rw [ss9]; exact M5.out.mono (by omega) (Nat.le_refl _), below_frl1 HB5.out (Nat.le_refl _) ff9 (by omega)⟩

set_option maxRecDepth 100000 in
set_option maxHeartbeats 1000000 in
theorem specAspRise_p (gate : Int) (cs : List Value) (x : DAspBook) (w : World) (h : FAspBook w cs x) (hz : zAspBook x ≤ 1048576) : Calls Try.prog 37 #[.agg cs.toArray, .int .i64 gate] w (RisePost w x gate) := by
  have HF := Lib.hid h
  have Hz := Lib.hid hz
  obtain ⟨v0, v1, rfl, h0, h1⟩ := h
  clear h0 h1 hz
  have H1 := Lib.hid (fun h => gone_no (x := x) (gate := gate) h)
  have H2 := Lib.hid (fun h h2 => gone_none (x := x) (gate := gate) h h2)
  have H3 := Lib.hid (fun k h h2 => gone_at (x := x) (gate := gate) (k := k) h h2)
  have K := Lib.hid ((Blk.new (w := w) (b := w.heap.size) #[v0, v1] 38 rfl).alloc (.cells #[.slice none 0 0, .slice none 0 0] 38))
  have R := Lib.hid (Blk.new (w := w.alloc (.cells #[v0, v1] 38)) (b := w.heap.size + 1) #[.slice none 0 0, .slice none 0 0] 38 (by simp))
  have HB := Lib.hid (((Below.refl w.heap.size w).alloc (Nat.le_refl _) (.cells #[v0, v1] 38)).alloc (by simp) (.cells #[.slice none 0 0, .slice none 0 0] 38))
  have Z0 := Lib.hid (show w.heap.size + 2 = ((w.alloc (.cells #[v0, v1] 38)).alloc (.cells #[.slice none 0 0, .slice none 0 0] 38)).heap.size by simp)
  go_enter Try.func37, Try.ntmps37
  go_wp2_with (refine wpList_load_blk rfl 38 (.tmp 2) rfl K.out rfl _ Try.underlying38 rfl isz_AspBook ?_)
  refine (specAspOk_r _ x _ (HF.out.below HB.out)).mono ?_
  rintro e w1 ⟨rfl, b1⟩
  replace K := Lib.hid (K.out.keep b1)
  replace R := Lib.hid (R.out.keep b1)
  replace HB := Lib.hid (HB.out.trans (b1.mono HB.out.size))
  have Z1 := Lib.hid (show w.heap.size + 2 ≤ w1.heap.size from Nat.le_trans (Nat.le_of_eq Z0.out) b1.size)
  clear b1 Z0
  rcases hok : aspOk x with _ | _
  · obtain ⟨he, hs⟩ := H1.out hok
    have HE := Lib.hid he
    have HS := Lib.hid hs
    clear he hs
    have R1 := Lib.hid (R.out.alloc (.cells #[] 164))
    have HB1 := Lib.hid (HB.out.alloc HB.out.size (.cells #[] 164))
    go_wp2_with (refine wpList_store_blk rfl 38 (.tmp 4) (.tmp 11) rfl R1.out _ rfl rfl rfl isz_AspBook (by kernel_rfl) ?_; intro w9 kk9 ff9 ss9)
    refine bodyPost_ret (v := .tuple #[.agg #[.slice none 0 0, .slice none 0 0], .slice (some ⟨w1.heap.size, 0, none⟩) 0 0]) (results_row2 rfl rfl rfl (load_blk 38 kk9 _ Try.underlying38 rfl isz_AspBook)) rfl ?_
    have hz1 := Z1.out
    exact ⟨_, _, [], [w1.heap.size], rfl, by rw [HE.out]; exact ⟨_, _, [], [], rfl, OwIn.nil _, OwL.nil _, rfl⟩, by rw [HS.out]; exact OwL.frl EMsgWord.framed EMsgWord.inside (OwL.lit0 w1) ff9 (by simp; omega), ⟨by simp, by rw [ss9]; simp; omega⟩, below_frl1 HB1.out (Nat.le_refl _) ff9 (by omega)⟩
  go_wp2_with (refine wpList_load_blk rfl 38 (.tmp 2) rfl K.out rfl _ Try.underlying38 rfl isz_AspBook ?_)
  refine (l14Copy_n _ x _ (HF.out.below HB.out) Hz.out).mono ?_
  rintro e w2 ⟨cx, fx, rfl, ex, nx, b2⟩
  obtain ⟨x0, x1, g0, g1, rfl, p0, p1, hfx⟩ := ex
  obtain ⟨X0, c0, rfl⟩ := p0.rd.slice
  obtain ⟨X1, c1, rfl⟩ := OwL.slice p1
  subst hfx
  have NX := Lib.hid (nx.mono (lo' := w.heap.size + 2) Z1.out (Nat.le_refl _))
  have bX := (Below.refl w2.heap.size w2).alloc (Nat.le_refl _) (.cells #[.slice X0 x.xWish.length c0, .slice X1 x.xGates.length c1] 38)
  have P0 := Lib.hid (p0.below bX)
  have P1 := Lib.hid (OwL.below EAspGate.framed EAspGate.inside p1 bX)
  have X := Lib.hid (Blk.new (w := w2) (b := w2.heap.size) #[.slice X0 x.xWish.length c0, .slice X1 x.xGates.length c1] 38 rfl)
  replace K := Lib.hid ((K.out.keep b2).keep bX)
  replace R := Lib.hid ((R.out.keep b2).keep bX)
  have Z2 := Lib.hid (show w.heap.size + 2 ≤ w2.heap.size from Nat.le_trans Z1.out b2.size)
  replace HB := Lib.hid ((HB.out.trans (b2.mono HB.out.size)).trans (bX.mono (by have := Z2.out; omega)))
  have Z3 := Lib.hid (show w2.heap.size + 1 = (w2.alloc (.cells #[.slice X0 x.xWish.length c0, .slice X1 x.xGates.length c1] 38)).heap.size by simp)
  clear p0 p1 nx b2 bX
  go_wp2_with (refine wpList_load_blk rfl 38 (.tmp 2) rfl K.out rfl _ Try.underlying38 rfl isz_AspBook ?_)
  refine (l14At_r _ x gate _ (HF.out.below HB.out)).mono ?_
  rintro e w3 ⟨rfl, b3⟩
  have Z4 := Lib.hid (show w2.heap.size + 1 ≤ w3.heap.size from Nat.le_trans (Nat.le_of_eq Z3.out) b3.size)
  replace R := Lib.hid (R.out.keep b3)
  replace X := Lib.hid (X.out.keep b3)
  replace P0 := Lib.hid (P0.out.below b3)
  replace P1 := Lib.hid (OwL.below EAspGate.framed EAspGate.inside P1.out b3)
  replace HB := Lib.hid (HB.out.trans (b3.mono HB.out.size))
  clear b3 K Z3
  rcases hat : atG x.xGates gate with _ | k
  · obtain ⟨he, hs⟩ := H2.out hok hat
    have HE := Lib.hid he
    have HS := Lib.hid hs
    have hi : atI x.xGates gate = -1 := by simp [atI, hat]
    rw [hi]
    clear he hs hi hat
    have bl := (Below.refl w3.heap.size w3).alloc (Nat.le_refl _) (.cells #[] 164)
    have R1 := Lib.hid (R.out.keep bl)
    have Q0 := Lib.hid (P0.out.below bl)
    have Q1 := Lib.hid (OwL.below EAspGate.framed EAspGate.inside P1.out bl)
    have HB1 := Lib.hid (HB.out.trans (bl.mono HB.out.size))
    clear bl
    go_wp2_with (first | (refine wpList_load_blk rfl 38 (.tmp 6) rfl X.out rfl _ Try.underlying38 rfl isz_AspBook ?_) | (refine wpList_store_blk rfl 38 (.tmp 4) (.tmp 20) rfl R1.out _ rfl rfl rfl isz_AspBook (by kernel_rfl) ?_; intro w9 kk9 ff9 ss9))
    refine bodyPost_ret (v := .tuple #[.agg #[.slice X0 x.xWish.length c0, .slice X1 x.xGates.length c1], .slice (some ⟨w3.heap.size, 0, none⟩) 0 0]) (results_row2 rfl rfl rfl (load_blk 38 kk9 _ Try.underlying38 rfl isz_AspBook)) rfl ?_
    have hz1 := Z2.out
    have hz2 := Z4.out
    refine ⟨_, _, g0 ++ g1, [w3.heap.size], rfl, by rw [HE.out]; exact ⟨_, _, _, _, rfl, Q0.out.frl ff9 (fun b hb => by have := (NX.out.2 b (by simp [hb])).1; simp; omega), OwL.frl EAspGate.framed EAspGate.inside Q1.out ff9 (fun b hb => by have := (NX.out.2 b (by simp [hb])).1; simp; omega), rfl⟩, by rw [HS.out]; exact OwL.frl EMsgWord.framed EMsgWord.inside (OwL.lit0 w3) ff9 (by simp; omega), ?_, below_frl1 HB1.out (Nat.le_refl _) ff9 (by omega)⟩
    rw [ss9]
    exact (NX.out.mono (lo' := w.heap.size) (by omega) (Nat.le_refl _)).app (g := [w3.heap.size]) (mid := w2.heap.size) ⟨by simp, by simp; omega⟩ (by omega) (by simp; omega)
  obtain ⟨he, hs⟩ := H3.out k hok hat
  have HE := Lib.hid he
  have HS := Lib.hid hs
  have hi : atI x.xGates gate = (k : Int) := by simp [atI, hat]
  obtain ⟨hkl, hkg⟩ := atG_spec hat
  rw [hi]
  clear he hs hi hat hkg
  generalize hn1 : x.xGates.length = n1 at *
  clear hn1
  obtain ⟨g, rfl⟩ := P1.out.form0 (by omega)
  have hcap := RdS.cap (P1.out.rd (fun _ _ _ h => EAspGate.rd h))
  have Hgm := Lib.hid (OwL.own_mem P1.out g (by simp [Value.ownBlock]))
  have Hgb := Lib.hid (NX.out.2 g (List.mem_append_right _ Hgm.out))
  have Hnd := Lib.hid (List.nodup_append.1 NX.out.1).2.1
  have Hkl := Lib.hid hkl
  have hx1 := X.out.at (i := 1) rfl
  have Hxg := Lib.hid (show w2.heap.size ∉ [g] by have := Hgb.out; simp; omega)
  go_wp2_with (first | (refine wpList_store_elem rfl 153 (.tmp 27) (.tmp 26) rfl EAspGate.framed EAspGate.inside P1.out Hnd.out Hkl.out #[.int .i64 gate, .bool false, .slice none 0 0, .slice none 0 0, .slice none 0 0, .int .i64 0] (f' := []) (x' := zeroG gate) rfl rfl rfl (zeroG_e _ gate) (by simp) (by simp) isz_AspGate (by kernel_rfl) ?_; intro w4 bs4 o4 n4 s4 f4 z4) | (refine wpList_load_blk rfl 38 (.tmp 6) rfl (X.out.frl f4 Hxg.out) rfl _ Try.underlying38 rfl isz_AspBook ?_))
  have hz2 := Z2.out
  have hz4 := Z4.out
  have hgb := Hgb.out
  have R5 := Lib.hid (R.out.frl f4 (by simp; omega))
  have P05 := Lib.hid (P0.out.frl f4 (fun b hb => by have h1 := (List.nodup_append.1 NX.out.1).2.2 b hb; simp only [List.mem_singleton]; rintro rfl; exact h1 _ Hgm.out rfl))
  have HB5 := Lib.hid (HB.out.trans (f4.below (fun b hb => by simp at hb; omega) HB.out.size))
  have HP := Lib.hid o4
  have Z5 := Lib.hid z4
  clear o4 n4 s4 f4 X R P0 HB hgb z4 hx1 hkl
  refine (l14Copy_n _ (goneF x gate) _ ⟨_, _, rfl, by rw [HE.out]; exact P05.out.rd, by rw [HE.out]; exact HP.out.rd (fun _ _ _ h => EAspGate.rd h)⟩ (gone_z x gate Hz.out)).mono ?_
  rintro e w5 ⟨cs', f', rfl, e5, m5, b5⟩
  obtain ⟨y0, y1, u0, u1, rfl, o0, o1, hf'⟩ := e5
  obtain ⟨Y0, s0, rfl⟩ := o0.rd.slice
  obtain ⟨Y1, s1, rfl⟩ := OwL.slice o1
  subst hf'
  have O0 := Lib.hid o0
  have O1 := Lib.hid o1
  have M5 := Lib.hid m5
  have Z6 := Lib.hid (show w3.heap.size ≤ w5.heap.size from Nat.le_trans (Nat.le_of_eq Z5.out.symm) b5.size)
  replace R5 := Lib.hid (R5.out.keep b5)
  replace HB5 := Lib.hid (HB5.out.trans (b5.mono HB5.out.size))
  rw [Z5.out] at M5
  clear o0 o1 m5 b5 HP
  have bl := (Below.refl w5.heap.size w5).alloc (Nat.le_refl _) (.cells #[.int .i64 1, .int .i64 0, .int .i64 0, .int .i64 0, .int .i64 0, .slice none 0 0] 164)
  have R6 := Lib.hid (R5.out.keep bl)
  have Q0 := Lib.hid (O0.out.below bl)
  have Q1 := Lib.hid (OwL.below EAspGate.framed EAspGate.inside O1.out bl)
  have QW := Lib.hid (OwL.lit1 (w := w5) (e := 164) (m := 6) EMsgWord.framed EMsgWord.inside (upWord_e w5) rfl w5.heap.size rfl)
  have HB6 := Lib.hid (HB5.out.trans (bl.mono HB5.out.size))
  clear bl
  go_wp2_with (refine wpList_store_blk rfl 38 (.tmp 4) (.tmp 29) rfl R6.out _ rfl rfl rfl isz_AspBook (by kernel_rfl) ?_; intro w9 kk9 ff9 ss9)
  refine bodyPost_ret (v := .tuple #[.agg #[.slice Y0 (goneF x gate).xWish.length s0, .slice Y1 (goneF x gate).xGates.length s1], .slice (some ⟨w5.heap.size, 0, none⟩) 1 1]) (results_row2 rfl rfl rfl (load_blk 38 kk9 _ Try.underlying38 rfl isz_AspBook)) rfl ?_
  have h4 := Z4.out
  have h6 := Z6.out
  refine ⟨_, _, u0 ++ u1, [w5.heap.size], rfl, ⟨_, _, _, _, rfl, Q0.out.frl ff9 (fun b hb => by have := (M5.out.2 b (by simp [hb])).1; simp; omega), OwL.frl EAspGate.framed EAspGate.inside Q1.out ff9 (fun b hb => by have := (M5.out.2 b (by simp [hb])).1; simp; omega), rfl⟩, by rw [HS.out]; exact OwL.frl EMsgWord.framed EMsgWord.inside QW.out ff9 (by simp; omega), ?_, below_frl1 HB6.out (Nat.le_refl _) ff9 (by omega)⟩
  rw [ss9]
  exact (M5.out.mono (lo' := w.heap.size) (by omega) (Nat.le_refl _)).app (g := [w5.heap.size]) (mid := w5.heap.size) ⟨by simp, by simp⟩ (by omega) (by simp)
end Go.Proofs.Ythdjjgbjemaabaa
