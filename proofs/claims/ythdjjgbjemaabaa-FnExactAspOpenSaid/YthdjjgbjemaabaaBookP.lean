/-
  AspOpen of the program. (Written by wip/tools/genopenb.py.)
-/
import Derived.Test.YthdjjgbjemaabaaBookF
namespace Go.Proofs.Ythdjjgbjemaabaa
open Go.ChangeShapes Go.WideShapes Go.ChangeAt Go.RowKit
set_option linter.unusedVariables false
set_option linter.unusedSimpArgs false

set_option maxRecDepth 100000 in
set_option maxHeartbeats 4000000 in
theorem implAspOpen_n (v0 : Value) (wi : List Int) (v1 : Value) (ga : List Int) (w : World) (h0 : RdI w v0 wi) (hn0 : wi.length ≤ 1048576) (h1 : RdI w v1 ga) (hn1 : ga.length ≤ 1048576) : Calls Try.prog 27 #[v0, v1] w fun e w' => ∃ cs' f, e = .returned (.tuple #[.agg cs'.toArray, .bool (aspOpenB wi ga)]) ∧ EAspBook w' f cs' (aspOpenF wi ga) ∧ Nw w.heap.size w'.heap.size f ∧ Below w.heap.size w w' := by
  obtain ⟨A1, q1, rfl⟩ := h1.slice
  have hc1 := h1.cap
  have H0 := Lib.hid h0
  have H1 := Lib.hid h1
  have Hn0 := Lib.hid hn0
  have Hyes := Lib.hid (fun h => open_yes (wi := wi) (ga := ga) h)
  have Hno := Lib.hid (fun h => open_no (wi := wi) (ga := ga) h)
  clear h0 h1 hn0
  generalize aspOpenF wi ga = oF at *
  generalize aspOpenB wi ga = oB at *
  generalize hl1 : ga.length = n1 at *
  have Hl1 := Lib.hid hl1
  clear hl1
  have R := Lib.hid (Blk.new (w := w) (b := w.heap.size) #[.slice none 0 0, .slice none 0 0] 38 rfl)
  have HB := Lib.hid ((Below.refl w.heap.size w).alloc (Nat.le_refl _) (.cells #[.slice none 0 0, .slice none 0 0] 38))
  have Z0 := Lib.hid (show w.heap.size + 1 = (w.alloc (.cells #[.slice none 0 0, .slice none 0 0] 38)).heap.size by simp)
  go_enter Try.func27, Try.ntmps27
  go_wp2_with fail
  refine (cloneInts_n _ wi _ (H0.out.below HB.out) Hn0.out).mono ?_
  rintro e w1 ⟨V0, f0, rfl, o0, m0, b0⟩
  obtain ⟨A0, q0, rfl⟩ := o0.rd.slice
  have O0 := Lib.hid o0
  have N0 := Lib.hid (m0.mono (lo' := w.heap.size + 1) (Nat.le_of_eq Z0.out) (Nat.le_refl _))
  have Z1 := Lib.hid (show w.heap.size + 1 ≤ w1.heap.size from Nat.le_trans (Nat.le_of_eq Z0.out) b0.size)
  replace R := Lib.hid (R.out.keep b0)
  replace HB := Lib.hid (HB.out.trans (b0.mono HB.out.size))
  generalize hl0 : wi.length = n0 at *
  have Hl0 := Lib.hid hl0
  clear o0 m0 b0 hl0 Z0
  have bc := (Below.refl w1.heap.size w1).alloc (Nat.le_refl _) (.cells #[.slice A0 n0 q0, .slice none 0 0] 38)
  have C := Lib.hid (Blk.new (w := w1) (b := w1.heap.size) #[.slice A0 n0 q0, .slice none 0 0] 38 rfl)
  replace R := Lib.hid (R.out.keep bc)
  replace O0 := Lib.hid (O0.out.below bc)
  replace HB := Lib.hid (HB.out.trans (bc.mono HB.out.size))
  have Z := Lib.hid (show w1.heap.size + 1 ≤ (w1.alloc (.cells #[.slice A0 n0 q0, .slice none 0 0] 38)).heap.size by simp)
  clear bc
  go_wp2
  generalize World.alloc w1 _ = w2 at *
  go_loopw [14] (fun i w3 => ∃ (j : Nat) (v : Value) (f : List Nat), j ≤ n1 ∧ i = .int .i64 j ∧ OwL 153 6 EAspGate w3 f v ((ga.take j).map zeroG) ∧ Nw (w1.heap.size + 1) w3.heap.size f ∧ w1.heap.size + 1 ≤ w3.heap.size ∧ Blk w3 w1.heap.size [.slice A0 n0 q0, v] ∧ Blk w3 w.heap.size [.slice none 0 0, .slice none 0 0] ∧ OwIn w3 f0 (.slice A0 n0 q0) wi ∧ Below w.heap.size w w3) (fun i _ => n1 - (intOf i).toNat)
  case atStart => exact ⟨0, .slice none 0 0, [], by omega, rfl, OwL.nil _, Nw.nil _ _, Z.out, C.out, R.out, O0.out, HB.out⟩
  case round =>
    clear R C HB Z O0
    obtain ⟨j, v, f, hj, rfl, ho, hnw, hzz, hc, hr, ho0, hb⟩ := hrel
    obtain ⟨GA, gc, hgv⟩ := OwL.slice ho
    have htl : ((ga.take j).map zeroG).length = j := by rw [List.length_map, List.length_take, Hl1.out]; omega
    rw [htl] at hgv
    subst hgv
    have G := Lib.hid ho
    have N := Lib.hid hnw
    have Z := Lib.hid hzz
    have C := Lib.hid hc
    have R := Lib.hid hr
    have O0 := Lib.hid ho0
    have HB := Lib.hid hb
    clear ho hnw hzz hc hr hb htl ho0
    by_cases hlt : j < n1
    · obtain ⟨ad, hk, rfl, hcw⟩ := H1.out.at_ hlt
      have hcell := cellKeep hcw HB.out
      have Htk := Lib.hid (List.take_succ_eq_append_getElem hk)
      generalize ga[j] = g at *
      have be := (Below.refl wr.heap.size wr).alloc (Nat.le_refl _) (.cells #[.int .i64 g, .bool false, .slice none 0 0, .slice none 0 0, .slice none 0 0, .int .i64 0] 153)
      have hs : (wr.alloc (.cells #[.int .i64 g, .bool false, .slice none 0 0, .slice none 0 0, .slice none 0 0, .int .i64 0] 153)).heap.size = wr.heap.size + 1 := by simp
      have KN := Lib.hid (Blk.new (w := wr) (b := wr.heap.size) #[.int .i64 g, .bool false, .slice none 0 0, .slice none 0 0, .slice none 0 0, .int .i64 0] 153 rfl)
      have cc0 := C.out.at (i := 1) rfl
      have hz := Z.out
      have hz1 := Z1.out
      have Hlen := Lib.hid (show ((ga.take j).map zeroG).length + [zeroG g].length ≤ 1073741824 by rw [List.length_map, List.length_take, Hl1.out]; simp; omega)
      have G5 := Lib.hid (G.out.below EAspGate.framed EAspGate.inside be)
      have N5 := Lib.hid (N.out.mono (Nat.le_refl _) be.size)
      have L5 := Lib.hid (Nat.le_trans hz be.size)
      have C5 := Lib.hid (C.out.keep be)
      have R5 := Lib.hid (R.out.keep be)
      have O5 := Lib.hid (O0.out.below be)
      have B5 := Lib.hid (HB.out.trans (be.mono HB.out.size))
      clear be hs hcw
      go_wp2_with (at_builtin; go_loud (refine wpList_push (lo := w1.heap.size + 1) (a := ⟨wr.heap.size, 0, none⟩) (c := 1) (ys := [zeroG g]) EAspGate.framed EAspGate.inside elemAspGate _ rfl (.tmp 19) (.tmp 22) rfl rfl rfl G5.out N5.out L5.out (Els.one (f := []) (zeroG_e _ g) rfl) (Nw.nil _ _) (by simp) (fun i u hu => by rw [add_zero_blk]; exact KN.out.at hu) (by simp [Value.oneCell']) Hlen.out ?_))
      intro v' w6 bs' h1 h2 h3 _
      have bq : Below (w1.heap.size + 1) (wr.alloc (.cells #[.int .i64 g, .bool false, .slice none 0 0, .slice none 0 0, .slice none 0 0, .int .i64 0] 153)) w6 := (Below.refl _ _).grown h3 L5.out (fun k hk' => (N5.out.2 k (G5.out.own_mem k (by simp [hk']))).1)
      have hmt : (ga.take (j + 1)).map zeroG = (ga.take j).map zeroG ++ [zeroG g] := by rw [Htk.out, List.map_append]; rfl
      replace h1 : OwL 153 6 EAspGate w6 bs' v' ((ga.take (j + 1)).map zeroG) := by rw [hmt]; simpa [List.map_take] using h1
      clear hmt
      obtain ⟨GA', gc', hv'⟩ := OwL.slice h1
      have htl' : ((ga.take (j + 1)).map zeroG).length = j + 1 := by rw [List.length_map, List.length_take, Hl1.out]; omega
      rw [htl'] at hv'
      subst hv'
      have H1' := Lib.hid h1
      have H2' := Lib.hid h2
      have C6 := Lib.hid (C5.out.below bq (by omega))
      have R6 := Lib.hid (R5.out.below bq (by omega))
      have O6 := Lib.hid (O5.out.keep (fun b hb => bq.block b (by have := (N0.out.2 b hb).2; omega)))
      have HB6 := Lib.hid (B5.out.trans (bq.mono (by omega)))
      have ZN := Lib.hid (Nat.le_trans L5.out bq.size)
      have hnf : w1.heap.size ∉ bs' := fun h => by have := (h2.2 _ h).1; omega
      clear h1 h2 h3 bq htl' cc0
      have cc1 := C6.out.at (i := 1) rfl
      have cy1 := C6.out.frozen 1
      go_wp2
      refine ⟨⟨j + 1, _, bs', by omega, by go_num, OwL.set EAspGate.framed H1'.out hnf, by have h := H2'.out; simpa [size_set] using h, by have h := ZN.out; simpa [size_set] using h, ?_, R6.out.far (by omega), O6.out.set (fun h => by have := (N0.out.2 _ h).2; omega), HB6.out.setCell (by simp; omega) _⟩, by simp [intOf]; omega⟩
      exact C6.out.set (i := 1) (by simp)
    · have : j = n1 := by omega
      subst this
      have g := G.out
      rw [List.take_of_length_le (by rw [Hl1.out]; omega)] at g
      have GF := Lib.hid g
      clear g G
      have hz := Z.out
      have hz1 := Z1.out
      have FB := Lib.hid (show FAspBook wr [.slice A0 n0 q0, .slice GA j gc] (openBook wi ga) from ⟨_, _, rfl, O0.out.rd, GF.out.rd (fun _ _ _ h => EAspGate.rd h)⟩)
      go_wp2_with (refine wpList_load_blk rfl 38 (.tmp 6) rfl C.out rfl _ Try.underlying38 rfl isz_AspBook ?_)
      refine (implAspOk_w _ (openBook wi ga) _ FB.out ⟨by rw [show (openBook wi ga).xWish = wi from rfl, Hl0.out]; exact Hn0.out, fun _ _ h => zOpenG h⟩).mono ?_
      rintro e w4 ⟨rfl, b4⟩
      replace C := Lib.hid (C.out.keep b4)
      replace R := Lib.hid (R.out.keep b4)
      replace O0 := Lib.hid (O0.out.below b4)
      replace GF := Lib.hid (GF.out.below EAspGate.framed EAspGate.inside b4)
      replace HB := Lib.hid (HB.out.trans (b4.mono HB.out.size))
      have Z4 := Lib.hid (show wr.heap.size ≤ w4.heap.size from b4.size)
      clear b4 FB
      rcases hok : aspOk (openBook wi ga) with _ | _
      · obtain ⟨hE, hb⟩ := Hno.out hok
        have HE := Lib.hid hE
        have HBb := Lib.hid hb
        clear hE hb
        go_wp2_with (refine wpList_store_blk rfl 38 (.tmp 4) (.tmp 29) rfl R.out _ rfl rfl rfl isz_AspBook (by kernel_rfl) ?_; intro w9 kk9 ff9 ss9)
        refine bodyPost_ret (v := .tuple #[.agg #[.slice none 0 0, .slice none 0 0], .bool false]) (results_row2 rfl rfl rfl (load_blk 38 kk9 _ Try.underlying38 rfl isz_AspBook)) rfl ?_
        exact ⟨_, by rw [HBb.out], [], by rw [HE.out]; exact ⟨_, _, [], [], rfl, OwIn.nil _, OwL.nil _, rfl⟩, Nw.nil _ _, below_frl1 HB.out (Nat.le_refl _) ff9 (by omega)⟩
      · obtain ⟨hE, hb⟩ := Hyes.out hok
        have HE := Lib.hid hE
        have HBb := Lib.hid hb
        clear hE hb
        go_wp2_with (first | (refine wpList_load_blk rfl 38 (.tmp 6) rfl C.out rfl _ Try.underlying38 rfl isz_AspBook ?_) | (refine wpList_store_blk rfl 38 (.tmp 4) (.tmp 30) rfl R.out _ rfl rfl rfl isz_AspBook (by kernel_rfl) ?_; intro w9 kk9 ff9 ss9))
        refine bodyPost_ret (v := .tuple #[.agg #[.slice A0 n0 q0, .slice GA j gc], .bool true]) (results_row2 rfl rfl rfl (load_blk 38 kk9 _ Try.underlying38 rfl isz_AspBook)) rfl ?_
        have h4 := Z4.out
        refine ⟨_, by rw [HBb.out], f0 ++ f, by rw [HE.out]; exact ⟨_, _, _, _, rfl, O0.out.frl ff9 (fun b hb => by have := (N0.out.2 b hb).1; simp; omega), OwL.frl EAspGate.framed EAspGate.inside GF.out ff9 (fun b hb => by have := (N.out.2 b hb).1; simp; omega), rfl⟩, ?_, below_frl1 HB.out (Nat.le_refl _) ff9 (by omega)⟩
        rw [ss9]
        exact (N0.out.mono (lo' := w.heap.size) (by omega) (Nat.le_succ _)).app (N.out.mono (Nat.le_refl _) h4) (by omega) (by omega)
end Go.Proofs.Ythdjjgbjemaabaa
