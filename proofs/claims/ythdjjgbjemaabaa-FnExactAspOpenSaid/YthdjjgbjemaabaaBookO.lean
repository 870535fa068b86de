/-
  AspOpen of the model. (Written by wip/tools/genopenb.py.)
-/
import Derived.Test.YthdjjgbjemaabaaBookF
import Derived.Test.YthdjjgbjemaabaaLine
namespace Go.Proofs.Ythdjjgbjemaabaa
open Go.ChangeShapes Go.WideShapes Go.ChangeAt Go.RowKit
set_option linter.unusedVariables false
set_option linter.unusedSimpArgs false

set_option maxRecDepth 100000 in
set_option maxHeartbeats 4000000 in
theorem specAspOpen_n (v0 : Value) (wi : List Int) (v1 : Value) (ga : List Int) (w : World) (h0 : RdI w v0 wi) (hn0 : wi.length ≤ 1048576) (h1 : RdI w v1 ga) (hn1 : ga.length ≤ 1048576) : Calls Try.prog 25 #[v0, v1] w fun e w' => ∃ cs' f, e = .returned (.tuple #[.agg cs'.toArray, .bool (aspOpenB wi ga)]) ∧ EAspBook w' f cs' (aspOpenF wi ga) ∧ Nw w.heap.size w'.heap.size f ∧ Below w.heap.size w w' := by
  obtain ⟨A0, q0, rfl⟩ := h0.slice
  obtain ⟨A1, q1, rfl⟩ := h1.slice
  have hc1 := h1.cap
  have H0 := Lib.hid h0
  have H1 := Lib.hid h1
  have Hz := Lib.hid (fun h => zOpen (wi := wi) (ga := ga) h)
  have Hyes := Lib.hid (fun h => open_yes (wi := wi) (ga := ga) h)
  have Hno := Lib.hid (fun h => open_no (wi := wi) (ga := ga) h)
  have Hlong := Lib.hid (show 2 < ga.length → aspOk (openBook wi ga) = false from fun h => by simp [aspOk, openBook]; omega)
  clear h0 h1 hn0
  generalize aspOpenF wi ga = oF at *
  generalize aspOpenB wi ga = oB at *
  generalize hl0 : wi.length = n0 at *
  generalize hl1 : ga.length = n1 at *
  have Hl0 := Lib.hid hl0
  have Hl1 := Lib.hid hl1
  clear hl0 hl1
  have R := Lib.hid (Blk.new (w := w) (b := w.heap.size) #[.slice none 0 0, .slice none 0 0] 38 rfl)
  have HB := Lib.hid ((Below.refl w.heap.size w).alloc (Nat.le_refl _) (.cells #[.slice none 0 0, .slice none 0 0] 38))
  by_cases hg : 2 < n1
  · obtain ⟨hE, hb⟩ := Hno.out (Hlong.out hg)
    have HE := Lib.hid hE
    have HBb := Lib.hid hb
    clear hE hb
    go_enter Try.func25, Try.ntmps25
    go_wp2_with (refine wpList_store_blk rfl 38 (.tmp 4) (.tmp 11) rfl R.out _ rfl rfl rfl isz_AspBook (by kernel_rfl) ?_; intro w9 kk9 ff9 ss9)
    refine bodyPost_ret (v := .tuple #[.agg #[.slice none 0 0, .slice none 0 0], .bool false]) (results_row2 rfl rfl rfl (load_blk 38 kk9 _ Try.underlying38 rfl isz_AspBook)) rfl ?_
    exact ⟨_, by rw [HBb.out], [], by rw [HE.out]; exact ⟨_, _, [], [], rfl, OwIn.nil _, OwL.nil _, rfl⟩, Nw.nil _ _, below_frl1 HB.out (Nat.le_refl _) ff9 (by omega)⟩
  have hn2 : n1 ≤ 2 := by omega
  clear hg Hlong
  have bc := (Below.refl (w.alloc (.cells #[.slice none 0 0, .slice none 0 0] 38)).heap.size (w.alloc (.cells #[.slice none 0 0, .slice none 0 0] 38))).alloc (Nat.le_refl _) (.cells #[.slice A0 n0 q0, .slice none 0 0] 38)
  have C := Lib.hid (Blk.new (w := w.alloc (.cells #[.slice none 0 0, .slice none 0 0] 38)) (b := w.heap.size + 1) #[.slice A0 n0 q0, .slice none 0 0] 38 (by simp))
  replace R := Lib.hid (R.out.keep bc)
  replace HB := Lib.hid (HB.out.trans (bc.mono HB.out.size))
  have Z := Lib.hid (show w.heap.size + 2 ≤ ((w.alloc (.cells #[.slice none 0 0, .slice none 0 0] 38)).alloc (.cells #[.slice A0 n0 q0, .slice none 0 0] 38)).heap.size by simp)
  clear bc
  go_enter Try.func25, Try.ntmps25
  go_wp2
  generalize World.alloc (World.alloc w _) _ = w2 at *
  go_loopw [7] (fun i w3 => ∃ (j : Nat) (v : Value) (f : List Nat), j ≤ n1 ∧ i = .int .i64 j ∧ OwL 153 6 EAspGate w3 f v ((ga.take j).map zeroG) ∧ Nw (w.heap.size + 2) w3.heap.size f ∧ w.heap.size + 2 ≤ w3.heap.size ∧ Blk w3 (w.heap.size + 1) [.slice A0 n0 q0, v] ∧ Blk w3 w.heap.size [.slice none 0 0, .slice none 0 0] ∧ Below w.heap.size w w3) (fun i _ => n1 - (intOf i).toNat)
  case atStart => exact ⟨0, .slice none 0 0, [], by omega, rfl, OwL.nil _, Nw.nil _ _, Z.out, C.out, R.out, HB.out⟩
  case round =>
    clear R C HB Z
    obtain ⟨j, v, f, hj, rfl, ho, hnw, hzz, hc, hr, hb⟩ := hrel
    obtain ⟨GA, gc, hgv⟩ := OwL.slice ho
    have htl : ((ga.take j).map zeroG).length = j := by rw [List.length_map, List.length_take, Hl1.out]; omega
    rw [htl] at hgv
    subst hgv
    have G := Lib.hid ho
    have N := Lib.hid hnw
    have Z := Lib.hid hzz
    have C := Lib.hid hc
    have R := Lib.hid hr
    have HB := Lib.hid hb
    clear ho hnw hzz hc hr hb htl
    by_cases hlt : j < n1
    · obtain ⟨ad, hk, rfl, hcw⟩ := H1.out.at_ hlt
      have hcell := cellKeep hcw HB.out
      have Htk := Lib.hid (List.take_succ_eq_append_getElem hk)
      generalize ga[j] = g at *
      have cc1 := C.out.drew.at (i := 1) rfl
      have cg : wr.drew.cell? (ad.add j) = some (.int .i64 g) := cellKeep hcell (Below.refl _ _).drew
      have be := (Below.refl wr.drew.heap.size wr.drew).alloc (Nat.le_refl _) (.cells #[.int .i64 g, .bool false, .slice none 0 0, .slice none 0 0, .slice none 0 0, .int .i64 0] 153)
      have bd : Below wr.heap.size wr wr.drew := (Below.refl _ _).drew
      have bde : Below wr.heap.size wr (wr.drew.alloc (.cells #[.int .i64 g, .bool false, .slice none 0 0, .slice none 0 0, .slice none 0 0, .int .i64 0] 153)) := bd.trans be
      have hs : (wr.drew.alloc (.cells #[.int .i64 g, .bool false, .slice none 0 0, .slice none 0 0, .slice none 0 0, .int .i64 0] 153)).heap.size = wr.heap.size + 1 := by simp
      have KN := Blk.new (w := wr.drew) (b := wr.heap.size) #[.int .i64 g, .bool false, .slice none 0 0, .slice none 0 0, .slice none 0 0, .int .i64 0] 153 (by simp)
      obtain ⟨v', w6, bs', hrun, h1, h2, h3, h4⟩ := OwL.push (P := Try.prog) (t := 36) (ty := 36) (lo := w.heap.size + 2) EAspGate.framed EAspGate.inside elemAspGate (G.out.below EAspGate.framed EAspGate.inside bde) (N.out.mono (Nat.le_refl _) (by rw [hs]; omega)) (by have := Z.out; rw [hs]; omega) (Els.one (f := []) (zeroG_e _ g) rfl) (Nw.nil _ _) (by simp) ⟨wr.heap.size, 0, none⟩ 1 (fun i u hu => by rw [add_zero_blk]; exact KN.at hu) (by simp [Value.oneCell']) (by simp; omega)
      have bq : Below (w.heap.size + 2) (wr.drew.alloc (.cells #[.int .i64 g, .bool false, .slice none 0 0, .slice none 0 0, .slice none 0 0, .int .i64 0] 153)) w6 := (Below.refl _ _).grown h3 (by have := Z.out; rw [hs]; omega) (fun k hk' => (N.out.2 k (G.out.own_mem k (by simp [hk']))).1)
      have b6 : Below (w.heap.size + 2) wr w6 := (bde.mono Z.out).trans bq
      have hz := Z.out
      have S0 := Lib.hid (show Blk wr.drew (w.heap.size + 1) [.slice A0 n0 q0, .slice GA j gc] ∧ wr.drew.cell? (ad.add j) = some (.int .i64 g) from ⟨C.out.drew, cellKeep hcell bd⟩)
      have S1 := Lib.hid (show Blk (wr.drew.alloc (.cells #[.int .i64 g, .bool false, .slice none 0 0, .slice none 0 0, .slice none 0 0, .int .i64 0] 153)) (w.heap.size + 1) [.slice A0 n0 q0, .slice GA j gc] ∧ (wr.drew.alloc (.cells #[.int .i64 g, .bool false, .slice none 0 0, .slice none 0 0, .slice none 0 0, .int .i64 0] 153)).cell? (ad.add j) = some (.int .i64 g) from ⟨C.out.keep bde, cellKeep hcell bde⟩)
      have C6 := Lib.hid (C.out.below b6 (by omega))
      have S2 := Lib.hid (show Blk w6 (w.heap.size + 1) [.slice A0 n0 q0, .slice GA j gc] ∧ w6.cell? (ad.add j) = some (.int .i64 g) from ⟨C6.out, (b6.cell (p := ad.add j) (by have := World.block_lt_of_cell? w _ hcw; omega)).trans hcell⟩)
      have R6 := Lib.hid (R.out.below b6 (by omega))
      have HB6 := Lib.hid (HB.out.trans (b6.mono (by omega)))
      have ZN := Lib.hid (show w.heap.size + 2 ≤ w6.heap.size from Nat.le_trans Z.out b6.size)
      rw [← List.map_singleton (f := zeroG), ← List.map_append, ← Htk.out] at h1
      obtain ⟨GA', gc', hv'⟩ := OwL.slice h1
      have htl' : ((ga.take (j + 1)).map zeroG).length = j + 1 := by rw [List.length_map, List.length_take, Hl1.out]; omega
      rw [htl'] at hv'
      subst hv'
      have hrun' : (Builtin.append_ #[36, 36] 36 #[.slice GA j gc, .slice (some ⟨wr.heap.size, 0, none⟩) 1 1]).run Try.prog (wr.drew.alloc (.cells #[.int .i64 g, .bool false, .slice none 0 0, .slice none 0 0, .slice none 0 0, .int .i64 0] 153)) = .ok (.slice GA' (j + 1) gc') w6 := hrun
      have H1' := Lib.hid h1
      have H2' := Lib.hid h2
      clear hrun h1 h2 h3 h4 hs be KN bd bde bq b6 hcell htl' hcw
      go_wp2_with fail
      refine wp_region_line (fun y => Blk y (w.heap.size + 1) [.slice A0 n0 q0, .slice GA j gc] ∧ y.cell? (ad.add j) = some (.int .i64 g)) 10 (by kernel_rfl) ?_
      refine line_take 0 (.pointer (some ⟨w.heap.size + 1, 1, none⟩)) rfl (by kernel_rfl) (by kernel_rfl) (by kernel_rfl) (by kernel_rfl) (fun _ _ _ h => h) (by rfl) (fun y hS => by go_simp) S0.out ?_
      simp only [Act.put, List.setIfInBounds_toArray, List.set_cons_zero, List.set_cons_succ]
      refine line_take 1 (.slice GA j gc) rfl (by kernel_rfl) (by kernel_rfl) (by kernel_rfl) (by kernel_rfl) (fun _ _ _ h => h) (by rfl) (fun y hS => by have kk := hS.1.at (i := 1) rfl; go_simp) S0.out ?_
      simp only [Act.put, List.setIfInBounds_toArray, List.set_cons_zero, List.set_cons_succ]
      refine line_take 2 (.slice (some ad) n1 q1) rfl (by kernel_rfl) (by kernel_rfl) (by kernel_rfl) (by kernel_rfl) (fun _ _ _ h => h) (by rfl) (fun y hS => by go_simp) S0.out ?_
      simp only [Act.put, List.setIfInBounds_toArray, List.set_cons_zero, List.set_cons_succ]
      refine line_take 3 (.int .i64 j) rfl (by kernel_rfl) (by kernel_rfl) (by kernel_rfl) (by kernel_rfl) (fun _ _ _ h => h) (by rfl) (fun y hS => by go_simp) S0.out ?_
      simp only [Act.put, List.setIfInBounds_toArray, List.set_cons_zero, List.set_cons_succ]
      refine line_take 4 (.pointer (some (ad.add j))) rfl (by kernel_rfl) (by kernel_rfl) (by kernel_rfl) (by kernel_rfl) (fun _ _ _ h => h) (by rfl) (fun y hS => by go_simp) S0.out ?_
      simp only [Act.put, List.setIfInBounds_toArray, List.set_cons_zero, List.set_cons_succ]
      refine line_take 5 (.int .i64 g) rfl (by kernel_rfl) (by kernel_rfl) (by kernel_rfl) (by kernel_rfl) (fun _ _ _ h => h) (by rfl) (fun y hS => by have kk := hS.2; go_simp) S0.out ?_
      simp only [Act.put, List.setIfInBounds_toArray, List.set_cons_zero, List.set_cons_succ]
      refine line_take 6 (.agg #[.int .i64 g, .bool false, .slice none 0 0, .slice none 0 0, .slice none 0 0, .int .i64 0]) rfl (by kernel_rfl) (by kernel_rfl) (by kernel_rfl) (by kernel_rfl) (fun _ _ _ h => h) (by rfl) (fun y hS => by go_simp) S0.out ?_
      simp only [Act.put, List.setIfInBounds_toArray, List.set_cons_zero, List.set_cons_succ]
      refine line_val 7 (.slice (some ⟨wr.heap.size, 0, none⟩) 1 1) (w' := wr.drew.alloc (.cells #[.int .i64 g, .bool false, .slice none 0 0, .slice none 0 0, .slice none 0 0, .int .i64 0] 153)) rfl (by kernel_rfl) (by rfl) (by go_simp) (fun _ => S1.out) ?_
      simp only [Act.put, List.setIfInBounds_toArray, List.set_cons_zero, List.set_cons_succ]
      refine line_val 8 (.slice GA' (j + 1) gc') (w' := w6) rfl (by kernel_rfl) (by rfl) (by simp [execOp, resolve, invoke, builtin, Act.eval, hrun']) (fun _ => S2.out) ?_
      simp only [Act.put, List.setIfInBounds_toArray, List.set_cons_zero, List.set_cons_succ]
      refine line_val 9 (.pointer (some ⟨w.heap.size + 1, 1, none⟩)) (w' := w6) rfl (by kernel_rfl) (by rfl) (by go_simp) (fun _ => S2.out) ?_
      simp only [Act.put, List.setIfInBounds_toArray, List.set_cons_zero, List.set_cons_succ]
      have cc1 := C6.out.at (i := 1) rfl
      have cy1 := C6.out.frozen 1
      refine line_skip 10 (w' := w6.setCell ⟨w.heap.size + 1, 1, none⟩ (.slice GA' (j + 1) gc')) rfl (by kernel_rfl) (by rfl) (by go_simp) (fun h => absurd rfl h) ?_
      refine line_done (by kernel_rfl) ?_ _
      have hnf : w.heap.size + 1 ∉ bs' := fun h => by have := (H2'.out.2 _ h).1; omega
      go_wp2
      refine ⟨⟨j + 1, _, bs', by omega, by go_num, OwL.set EAspGate.framed H1'.out hnf, by have h := H2'.out; simpa [size_set] using h, by have h := ZN.out; simpa [size_set] using h, ?_, R6.out.far (by omega), HB6.out.setCell (by simp) _⟩, by simp [intOf]; omega⟩
      exact C6.out.set (i := 1) (by simp)
    · have : j = n1 := by omega
      subst this
      have g := G.out
      rw [List.take_of_length_le (by rw [Hl1.out]; omega)] at g
      have GF := Lib.hid g
      clear g G
      have hz := Z.out
      have FB := Lib.hid (show FAspBook wr [.slice A0 n0 q0, .slice GA j gc] (openBook wi ga) from ⟨_, _, rfl, H0.out.below HB.out, GF.out.rd (fun _ _ _ h => EAspGate.rd h)⟩)
      go_wp2_with (refine wpList_load_blk rfl 38 (.tmp 6) rfl C.out rfl _ Try.underlying38 rfl isz_AspBook ?_)
      refine (specAspOk_r _ (openBook wi ga) _ FB.out).mono ?_
      rintro e w4 ⟨rfl, b4⟩
      replace C := Lib.hid (C.out.keep b4)
      replace R := Lib.hid (R.out.keep b4)
      replace FB := Lib.hid (FB.out.below b4)
      replace HB := Lib.hid (HB.out.trans (b4.mono HB.out.size))
      have Z4 := Lib.hid (show w.heap.size + 2 ≤ w4.heap.size from Nat.le_trans Z.out b4.size)
      clear b4
      rcases hok : aspOk (openBook wi ga) with _ | _
      · obtain ⟨hE, hb⟩ := Hno.out hok
        have HE := Lib.hid hE
        have HBb := Lib.hid hb
        clear hE hb
        go_wp2_with (refine wpList_store_blk rfl 38 (.tmp 4) (.tmp 33) rfl R.out _ rfl rfl rfl isz_AspBook (by kernel_rfl) ?_; intro w9 kk9 ff9 ss9)
        refine bodyPost_ret (v := .tuple #[.agg #[.slice none 0 0, .slice none 0 0], .bool false]) (results_row2 rfl rfl rfl (load_blk 38 kk9 _ Try.underlying38 rfl isz_AspBook)) rfl ?_
        exact ⟨_, by rw [HBb.out], [], by rw [HE.out]; exact ⟨_, _, [], [], rfl, OwIn.nil _, OwL.nil _, rfl⟩, Nw.nil _ _, below_frl1 HB.out (Nat.le_refl _) ff9 (by omega)⟩
      · obtain ⟨hE, hb⟩ := Hyes.out hok
        have HE := Lib.hid hE
        have HBb := Lib.hid hb
        clear hE hb
        go_wp2_with (refine wpList_load_blk rfl 38 (.tmp 6) rfl C.out rfl _ Try.underlying38 rfl isz_AspBook ?_)
        refine (l14Copy_n _ (openBook wi ga) _ FB.out (Hz.out hok)).mono ?_
        rintro e w5 ⟨cs', f', rfl, e5, m5, b5⟩
        obtain ⟨x0, x1, y0, y1, rfl, p0, p1, hf'⟩ := e5
        obtain ⟨X0, s0, rfl⟩ := p0.rd.slice
        obtain ⟨X1, s1, rfl⟩ := OwL.slice p1
        have P0 := Lib.hid p0
        have P1 := Lib.hid p1
        have M5 := Lib.hid m5
        replace R := Lib.hid (R.out.keep b5)
        replace HB := Lib.hid (HB.out.trans (b5.mono HB.out.size))
        subst hf'
        clear p0 p1 m5 b5
        go_wp2_with (refine wpList_store_blk rfl 38 (.tmp 4) (.tmp 35) rfl R.out _ rfl rfl rfl isz_AspBook (by kernel_rfl) ?_; intro w9 kk9 ff9 ss9)
        refine bodyPost_ret (v := .tuple #[.agg #[.slice X0 (openBook wi ga).xWish.length s0, .slice X1 (openBook wi ga).xGates.length s1], .bool true]) (results_row2 rfl rfl rfl (load_blk 38 kk9 _ Try.underlying38 rfl isz_AspBook)) rfl ?_
        have h4 := Z4.out
        exact ⟨_, by rw [HBb.out], y0 ++ y1, by rw [HE.out]; exact ⟨_, _, _, _, rfl, P0.out.frl ff9 (fun b hb => by have := (M5.out.2 b (by simp [hb])).1; simp; omega), OwL.frl EAspGate.framed EAspGate.inside P1.out ff9 (fun b hb => by have := (M5.out.2 b (by simp [hb])).1; simp; omega), rfl⟩, by rw [ss9]; exact M5.out.mono (by omega) (Nat.le_refl _), below_frl1 HB.out (Nat.le_refl _) ff9 (by omega)⟩
end Go.Proofs.Ythdjjgbjemaabaa
