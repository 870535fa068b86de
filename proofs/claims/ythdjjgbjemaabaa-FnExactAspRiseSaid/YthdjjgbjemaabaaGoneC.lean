/-
  A book in new memory: the program's copy. (Written by wip/tools/genbookg.py.)
-/
import Derived.Test.YthdjjgbjemaabaaGoneI
import Derived.Test.YthdjjgbjemaabaaLine
namespace Go.Proofs.Ythdjjgbjemaabaa
open Go.ChangeShapes Go.WideShapes Go.ChangeAt Go.RowKit
set_option linter.unusedVariables false
set_option linter.unusedSimpArgs false

set_option maxRecDepth 100000 in
set_option maxHeartbeats 4000000 in
theorem aspCopy_n (cs : List Value) (x : DAspBook) (w : World) (h : FAspBook w cs x) (hz : zAspBook x ≤ 1048576) : Calls Try.prog 136 #[.agg cs.toArray] w fun e w' => ∃ cs' f, e = .returned (.agg cs'.toArray) ∧ EAspBook w' f cs' x ∧ Nw w.heap.size w'.heap.size f ∧ Below w.heap.size w w' := by
  obtain ⟨v0, v1, rfl, h0, h1⟩ := h
  obtain ⟨A1, q1, rfl⟩ := RdS.slice h1
  have hc1 := RdS.cap h1
  have H0 := Lib.hid h0
  have H1 := Lib.hid h1
  have Hs0 := Lib.hid (show x.xWish.length ≤ 1048576 by unfold zAspBook at hz; omega)
  have Hx := Lib.hid (show ∀ g ∈ x.xGates, g.xActive.length ≤ 1048576 ∧ g.xAsked.length ≤ 1048576 ∧ g.xOff.length ≤ 1048576 from fun g hg => zGate_mem hg (by unfold zAspBook at hz; omega))
  have hn1 : x.xGates.length ≤ 1048576 := by unfold zAspBook zL at hz; omega
  clear h0 h1 hz
  generalize hl1 : x.xGates.length = n1 at hc1 hn1 H1
  have Hl1 := Lib.hid hl1
  clear hl1
  have K := Lib.hid ((Blk.new (w := w) (b := w.heap.size) #[v0, .slice A1 n1 q1] 38 rfl).alloc (.cells #[.slice none 0 0, .slice none 0 0] 38))
  have R := Lib.hid (Blk.new (w := w.alloc (.cells #[v0, .slice A1 n1 q1] 38)) (b := w.heap.size + 1) #[.slice none 0 0, .slice none 0 0] 38 (by simp))
  have HB := Lib.hid (((Below.refl w.heap.size w).alloc (Nat.le_refl _) (.cells #[v0, .slice A1 n1 q1] 38)).alloc (by simp) (.cells #[.slice none 0 0, .slice none 0 0] 38))
  have Z0 := Lib.hid (show w.heap.size + 2 = ((w.alloc (.cells #[v0, .slice A1 n1 q1] 38)).alloc (.cells #[.slice none 0 0, .slice none 0 0] 38)).heap.size by simp)
  have k0 := K.out.at (i := 0) rfl
  go_enter Try.func136, Try.ntmps136
  go_wp2_with fail
  refine (cloneInts_n _ x.xWish _ (H0.out.below HB.out) Hs0.out).mono ?_
  rintro e w1 ⟨V0, f0, rfl, o0, m0, b0⟩
  obtain ⟨A0, q0, rfl⟩ := o0.rd.slice
  generalize hl0 : x.xWish.length = n0 at *
  have Hl0 := Lib.hid hl0
  clear hl0
  have N0 := Lib.hid (m0.mono (lo' := w.heap.size + 2) (Nat.le_of_eq Z0.out) (Nat.le_refl _))
  have Z1 := Lib.hid (show w.heap.size + 2 ≤ w1.heap.size from Nat.le_trans (Nat.le_of_eq Z0.out) b0.size)
  have bc := (Below.refl w1.heap.size w1).alloc (Nat.le_refl _) (.cells #[.slice A0 n0 q0, .slice none 0 0] 38)
  have C := Lib.hid (Blk.new (w := w1) (b := w1.heap.size) #[.slice A0 n0 q0, .slice none 0 0] 38 rfl)
  have O0 := Lib.hid (o0.below bc)
  replace K := Lib.hid ((K.out.keep b0).keep bc)
  replace R := Lib.hid ((R.out.keep b0).keep bc)
  replace HB := Lib.hid ((HB.out.trans (b0.mono HB.out.size)).trans (bc.mono (by have := Z1.out; omega)))
  have Z := Lib.hid (show w1.heap.size + 1 ≤ (w1.alloc (.cells #[.slice A0 n0 q0, .slice none 0 0] 38)).heap.size by simp)
  clear o0 m0 b0 bc k0 Z0
  have k1 := K.out.at (i := 1) rfl
  go_wp2
  clear k1
  generalize World.alloc w1 _ = w2 at *
  go_loopw [12] (fun i w3 => ∃ (j : Nat) (v : Value) (f : List Nat), j ≤ n1 ∧ i = .int .i64 j ∧ OwL 153 6 EAspGate w3 f v (x.xGates.take j) ∧ Nw (w1.heap.size + 1) w3.heap.size f ∧ w1.heap.size + 1 ≤ w3.heap.size ∧ Blk w3 w1.heap.size [.slice A0 n0 q0, v] ∧ Blk w3 w.heap.size [v0, .slice A1 n1 q1] ∧ Blk w3 (w.heap.size + 1) [.slice none 0 0, .slice none 0 0] ∧ OwIn w3 f0 (.slice A0 n0 q0) x.xWish ∧ Below w.heap.size w w3) (fun i _ => n1 - (intOf i).toNat)
  case atStart => exact ⟨0, .slice none 0 0, [], by omega, rfl, OwL.nil _, Nw.nil _ _, Z.out, C.out, K.out, R.out, O0.out, HB.out⟩
  case round =>
    clear K R C HB Z O0
    obtain ⟨j, v, f, hj, rfl, ho, hnw, hzz, hc, hk, hr, ho0, hb⟩ := hrel
    obtain ⟨GA, gc, hgv⟩ := OwL.slice ho
    have htl : (x.xGates.take j).length = j := by rw [List.length_take, Hl1.out]; omega
    rw [htl] at hgv
    subst hgv
    have G := Lib.hid ho
    have N := Lib.hid hnw
    have Z := Lib.hid hzz
    have C := Lib.hid hc
    have K := Lib.hid hk
    have R := Lib.hid hr
    have O0 := Lib.hid ho0
    have HB := Lib.hid hb
    clear ho hnw hzz hc hk hr hb htl ho0
    by_cases hlt : j < n1
    · have hk : j < x.xGates.length := by rw [Hl1.out]; exact hlt
      have Htk := Lib.hid (List.take_succ_eq_append_getElem hk)
      have hzj := Hx.out _ (List.getElem_mem hk)
      have bd : Below wr.heap.size wr wr.drew := (Below.refl _ _).drew
      have S0 := Lib.hid (show Blk wr.drew w1.heap.size [.slice A0 n0 q0, .slice GA j gc] ∧ Blk wr.drew w.heap.size [v0, .slice A1 n1 q1] from ⟨C.out.drew, K.out.drew⟩)
      have hz1 := Z1.out
      have hz := Z.out
      go_wp2_with fail
      refine wp_region_line (fun y => Blk y w1.heap.size [.slice A0 n0 q0, .slice GA j gc] ∧ Blk y w.heap.size [v0, .slice A1 n1 q1]) 9 (by kernel_rfl) ?_
      refine line_take 0 (.pointer (some ⟨w1.heap.size, 1, none⟩)) rfl (by kernel_rfl) (by kernel_rfl) (by kernel_rfl) (by kernel_rfl) (fun _ _ _ h => h) (by rfl) (fun y hS => by go_simp) S0.out ?_
      simp only [Act.put, List.setIfInBounds_toArray, List.set_cons_zero, List.set_cons_succ]
      refine line_take 1 (.slice GA j gc) rfl (by kernel_rfl) (by kernel_rfl) (by kernel_rfl) (by kernel_rfl) (fun _ _ _ h => h) (by rfl) (fun y hS => by have kk := hS.1.at (i := 1) rfl; go_simp) S0.out ?_
      simp only [Act.put, List.setIfInBounds_toArray, List.set_cons_zero, List.set_cons_succ]
      refine line_take 2 (.agg #[v0, .slice A1 n1 q1]) rfl (by kernel_rfl) (by kernel_rfl) (by kernel_rfl) (by kernel_rfl) (fun _ _ _ h => h) (by rfl) (fun y hS => exec_load_blk 38 (.tmp 1) rfl hS.2 rfl _ Try.underlying38 rfl isz_AspBook) S0.out ?_
      simp only [Act.put, List.setIfInBounds_toArray, List.set_cons_zero, List.set_cons_succ]
      refine line_take 3 (.int .i64 j) rfl (by kernel_rfl) (by kernel_rfl) (by kernel_rfl) (by kernel_rfl) (fun _ _ _ h => h) (by rfl) (fun y hS => by go_simp) S0.out ?_
      simp only [Act.put, List.setIfInBounds_toArray, List.set_cons_zero, List.set_cons_succ]
      refine line_call 4 (f := 137) (args := #[.agg #[v0, .slice A1 n1 q1], .int .i64 j]) rfl (by kernel_rfl) (by rfl) (by go_simp) ?_
      refine (aspTalkTo_n _ _ x j _ (H0.out.below (HB.out.trans (bd.mono HB.out.size))) (RdAspGateS.below (by rw [← Hl1.out] at H1 ⊢; exact H1.out) (HB.out.trans (bd.mono HB.out.size))) hk ⟨by rw [Hl0.out]; exact Hs0.out, hzj.1, hzj.2.1, hzj.2.2⟩).mono ?_
      rintro e w4 ⟨tb, u0, u1, u2, u3, g0, g1, g2, g3, rfl, ht, -, p1, p2, p3, nt, b4⟩
      obtain ⟨D1, d1, rfl⟩ := p1.rd.slice
      obtain ⟨D2, d2, rfl⟩ := p2.rd.slice
      obtain ⟨D3, d3, rfl⟩ := p3.rd.slice
      have S1 := Lib.hid (show Blk w4 w1.heap.size [.slice A0 n0 q0, .slice GA j gc] ∧ Blk w4 w.heap.size [v0, .slice A1 n1 q1] from ⟨S0.out.1.keep b4, S0.out.2.keep b4⟩)
      refine ⟨_, rfl, fun _ => S1.out, ?_⟩
      simp only [Act.put, List.setIfInBounds_toArray, List.set_cons_zero, List.set_cons_succ]
      refine line_call 5 (f := 139) (args := #[.pointer (some ⟨tb, 0, none⟩)]) rfl (by kernel_rfl) (by rfl) (by go_simp) ?_
      refine (known_n tb u0 x.xGates[j].xGate x.xGates[j].xUp D1 D2 D3 _ d1 _ d2 _ d3 x.xGates[j].xJam _ w4 ht).mono ?_
      rintro e w5 ⟨rfl, b5⟩
      have S2 := Lib.hid (show Blk w5 w1.heap.size [.slice A0 n0 q0, .slice GA j gc] ∧ Blk w5 w.heap.size [v0, .slice A1 n1 q1] from ⟨S1.out.1.keep b5, S1.out.2.keep b5⟩)
      refine ⟨_, rfl, fun _ => S2.out, ?_⟩
      simp only [Act.put, List.setIfInBounds_toArray, List.set_cons_zero, List.set_cons_succ]
      have hw4 : wr.heap.size ≤ w4.heap.size := b4.size
      have hw5 : w4.heap.size ≤ w5.heap.size := b5.size
      have b45 : Below wr.heap.size wr w5 := bd.trans (b4.trans (b5.mono b4.size))
      have HBr := Lib.hid (HB.out.trans (b45.mono HB.out.size))
      have p1 := p1.below b5
      have p2 := p2.below b5
      have p3 := p3.below b5
      have hng : Nw wr.heap.size w5.heap.size (g1 ++ g2 ++ g3) := by
        have h1 := (nt.sub (f := g1 ++ g2 ++ g3) (by intro b hb; simp at hb ⊢; grind) (by have h := nt.1; simp only [List.nodup_cons, List.nodup_append, List.mem_append] at h ⊢; grind))
        exact h1.mono (by simp) hw5
      generalize x.xGates[j] = g at *
      have be := (Below.refl w5.heap.size w5).alloc (Nat.le_refl _) (.cells #[.int .i64 g.xGate, .bool g.xUp, .slice D1 g.xActive.length d1, .slice D2 g.xAsked.length d2, .slice D3 g.xOff.length d3, .int .i64 g.xJam] 153)
      have hs : (w5.alloc (.cells #[.int .i64 g.xGate, .bool g.xUp, .slice D1 g.xActive.length d1, .slice D2 g.xAsked.length d2, .slice D3 g.xOff.length d3, .int .i64 g.xJam] 153)).heap.size = w5.heap.size + 1 := by simp
      have bde : Below wr.heap.size wr (w5.alloc (.cells #[.int .i64 g.xGate, .bool g.xUp, .slice D1 g.xActive.length d1, .slice D2 g.xAsked.length d2, .slice D3 g.xOff.length d3, .int .i64 g.xJam] 153)) := b45.trans (be.mono (by omega))
      have KN := Blk.new (w := w5) (b := w5.heap.size) #[.int .i64 g.xGate, .bool g.xUp, .slice D1 g.xActive.length d1, .slice D2 g.xAsked.length d2, .slice D3 g.xOff.length d3, .int .i64 g.xJam] 153 rfl
      have EG : EAspGate (w5.alloc (.cells #[.int .i64 g.xGate, .bool g.xUp, .slice D1 g.xActive.length d1, .slice D2 g.xAsked.length d2, .slice D3 g.xOff.length d3, .int .i64 g.xJam] 153)) (g1 ++ g2 ++ g3) #[.int .i64 g.xGate, .bool g.xUp, .slice D1 g.xActive.length d1, .slice D2 g.xAsked.length d2, .slice D3 g.xOff.length d3, .int .i64 g.xJam].toList g := ⟨_, _, _, _, _, _, rfl, p1.below be, p2.below be, p3.below be, rfl⟩
      obtain ⟨v', w6, bs', hrun, h1, h2, h3, h4⟩ := OwL.push (P := Try.prog) (t := 36) (ty := 36) (lo := w1.heap.size + 1) EAspGate.framed EAspGate.inside elemAspGate (OwL.below EAspGate.framed EAspGate.inside G.out bde) (N.out.mono (Nat.le_refl _) (by rw [hs]; omega)) (by rw [hs]; omega) (Els.one EG rfl) (by simp only [List.flatten_cons, List.flatten_nil, List.append_nil]; exact hng.mono hz (by rw [hs]; omega)) (by simp only [List.flatten_cons, List.flatten_nil, List.append_nil]; intro b hb hf; have h5 := (hng.2 b hb).1; have h6 := (N.out.2 b hf).2; omega) ⟨w5.heap.size, 0, none⟩ 1 (fun i u hu => by rw [add_zero_blk]; exact KN.at hu) (by simp [Value.oneCell']) (by rw [List.length_take, Hl1.out]; simp; omega)
      have bq : Below (w1.heap.size + 1) (w5.alloc (.cells #[.int .i64 g.xGate, .bool g.xUp, .slice D1 g.xActive.length d1, .slice D2 g.xAsked.length d2, .slice D3 g.xOff.length d3, .int .i64 g.xJam] 153)) w6 := (Below.refl _ _).grown h3 (by rw [hs]; omega) (fun k hk' => (N.out.2 k (G.out.own_mem k (by simp [hk']))).1)
      have b6 : Below (w1.heap.size + 1) wr w6 := (bde.mono hz).trans bq
      rw [← Htk.out] at h1
      obtain ⟨GA', gc', hv'⟩ := OwL.slice h1
      have htl' : (x.xGates.take (j + 1)).length = j + 1 := by rw [List.length_take, Hl1.out]; omega
      rw [htl'] at hv'
      subst hv'
      have hrun' : (Builtin.append_ #[36, 36] 36 #[.slice GA j gc, .slice (some ⟨w5.heap.size, 0, none⟩) 1 1]).run Try.prog (w5.alloc (.cells #[.int .i64 g.xGate, .bool g.xUp, .slice D1 g.xActive.length d1, .slice D2 g.xAsked.length d2, .slice D3 g.xOff.length d3, .int .i64 g.xJam] 153)) = .ok (.slice GA' (j + 1) gc') w6 := hrun
      have S3 := Lib.hid (show Blk (w5.alloc (.cells #[.int .i64 g.xGate, .bool g.xUp, .slice D1 g.xActive.length d1, .slice D2 g.xAsked.length d2, .slice D3 g.xOff.length d3, .int .i64 g.xJam] 153)) w1.heap.size [.slice A0 n0 q0, .slice GA j gc] ∧ Blk (w5.alloc (.cells #[.int .i64 g.xGate, .bool g.xUp, .slice D1 g.xActive.length d1, .slice D2 g.xAsked.length d2, .slice D3 g.xOff.length d3, .int .i64 g.xJam] 153)) w.heap.size [v0, .slice A1 n1 q1] from ⟨S2.out.1.keep be, S2.out.2.keep be⟩)
      have C6 := Lib.hid (C.out.below b6 (Nat.lt_succ_self _))
      have S4 := Lib.hid (show Blk w6 w1.heap.size [.slice A0 n0 q0, .slice GA j gc] ∧ Blk w6 w.heap.size [v0, .slice A1 n1 q1] from ⟨C6.out, K.out.below b6 (by omega)⟩)
      have R6 := Lib.hid (R.out.below b6 (by omega))
      have O6 := Lib.hid (O0.out.keep (fun b hb => b6.block b (by have := (N0.out.2 b hb).2; omega)))
      have HB6 := Lib.hid (HB.out.trans (b6.mono (by omega)))
      have ZN := Lib.hid (show w1.heap.size + 1 ≤ w6.heap.size from Nat.le_trans hz b6.size)
      have hnf : w1.heap.size ∉ bs' := fun h => by have := (h2.2 _ h).1; omega
      have H1' := Lib.hid h1
      have H2' := Lib.hid h2
      clear hrun h1 h2 h3 h4 hs be KN bd bde bq b6 htl' b45 b4 b5 p1 p2 p3 nt hng EG ht hw4 hw5
      refine line_val 6 (.slice (some ⟨w5.heap.size, 0, none⟩) 1 1) (w' := w5.alloc (.cells #[.int .i64 g.xGate, .bool g.xUp, .slice D1 g.xActive.length d1, .slice D2 g.xAsked.length d2, .slice D3 g.xOff.length d3, .int .i64 g.xJam] 153)) rfl (by kernel_rfl) (by rfl) (by go_simp) (fun _ => S3.out) ?_
      simp only [Act.put, List.setIfInBounds_toArray, List.set_cons_zero, List.set_cons_succ]
      refine line_val 7 (.slice GA' (j + 1) gc') (w' := w6) rfl (by kernel_rfl) (by rfl) (by simp [execOp, resolve, invoke, builtin, Act.eval, hrun']) (fun _ => S4.out) ?_
      simp only [Act.put, List.setIfInBounds_toArray, List.set_cons_zero, List.set_cons_succ]
      refine line_val 8 (.pointer (some ⟨w1.heap.size, 1, none⟩)) (w' := w6) rfl (by kernel_rfl) (by rfl) (by go_simp) (fun _ => S4.out) ?_
      simp only [Act.put, List.setIfInBounds_toArray, List.set_cons_zero, List.set_cons_succ]
      have cc1 := C6.out.at (i := 1) rfl
      have cy1 := C6.out.frozen 1
      refine line_skip 9 (w' := w6.setCell ⟨w1.heap.size, 1, none⟩ (.slice GA' (j + 1) gc')) rfl (by kernel_rfl) (by rfl) (by go_simp) (fun h => absurd rfl h) ?_
      refine line_done (by kernel_rfl) ?_ _
      have K6 := Lib.hid S4.out.2
      clear S0 S1 S2 S3 S4
      go_wp2
      refine ⟨⟨j + 1, _, bs', by omega, by go_num, OwL.set EAspGate.framed H1'.out hnf, by have h := H2'.out; simpa [size_set] using h, by have h := ZN.out; simpa [size_set] using h, ?_, K6.out.far (by omega), R6.out.far (by omega), O6.out.set (fun h => by have := (N0.out.2 _ h).2; omega), HB6.out.setCell (by simp; omega) _⟩, by simp [intOf]; omega⟩
      exact C6.out.set (i := 1) (by simp)
    · have : j = n1 := by omega
      subst this
      have g := G.out
      rw [List.take_of_length_le (by rw [Hl1.out]; omega)] at g
      have GF := Lib.hid g
      clear g G
      have hz := Z.out
      have hz1 := Z1.out
      go_wp2_with (first | (refine wpList_load_blk rfl 38 (.tmp 3) rfl C.out rfl _ Try.underlying38 rfl isz_AspBook ?_) | (refine wpList_store_blk rfl 38 (.tmp 2) (.tmp 25) rfl R.out _ rfl rfl rfl isz_AspBook (by kernel_rfl) ?_; intro w9 kk9 ff9 ss9))
      refine bodyPost_ret (v := .agg #[.slice A0 n0 q0, .slice GA j gc]) (results_rw1 rfl rfl (load_blk 38 kk9 _ Try.underlying38 rfl isz_AspBook)) rfl ?_
      refine ⟨_, rfl, f0 ++ f, ⟨_, _, _, _, rfl, O0.out.frl ff9 (fun b hb => by have := (N0.out.2 b hb).1; simp; omega), OwL.frl EAspGate.framed EAspGate.inside GF.out ff9 (fun b hb => by have := (N.out.2 b hb).1; simp; omega), rfl⟩, ?_, below_frl1 HB.out (Nat.le_refl _) ff9 (by omega)⟩
      rw [ss9]
      exact (N0.out.mono (lo' := w.heap.size) (by omega) (Nat.le_succ _)).app (N.out.mono (Nat.le_refl _) (Nat.le_refl _)) (by omega) hz
end Go.Proofs.Ythdjjgbjemaabaa
