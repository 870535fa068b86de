/-
  A book in new memory: the model's copy. (Written by wip/tools/genbook.py.)
-/
import Derived.Test.YthdjjgbjemaabaaBlkW
import Derived.Test.YthdjjgbjemaabaaApp
import Derived.Test.YthdjjgbjemaabaaAppI
import Derived.Test.YthdjjgbjemaabaaAspOkM
import Derived.Test.YthdjjgbjemaabaaEndF
namespace Go.Proofs.Ythdjjgbjemaabaa
open Go.ChangeShapes Go.WideShapes Go.ChangeAt Go.RowKit
set_option linter.unusedVariables false
set_option linter.unusedSimpArgs false

set_option maxRecDepth 100000 in
theorem elemAspGate : Elem Try.prog 36 153 6 := by
  obtain ⟨i0, hi0, hz0, hz1, hz2⟩ := info_parts2 info_AspGate infob_AspGate
  exact ⟨i0, _, Try.underlying36, hi0, hz0, hz1, hz2, rfl, by decide⟩
theorem isz_AspBook : (Try.prog.info? 38).map (·.size) = some 2 := by kernel_rfl
theorem isz_AspGate : (Try.prog.info? 153).map (·.size) = some 6 := by kernel_rfl
theorem zGate_mem {xs : List DAspGate} {g : DAspGate} (h : g ∈ xs) (hz : zL zAspGate xs ≤ 1048576) : g.xActive.length ≤ 1048576 ∧ g.xAsked.length ≤ 1048576 ∧ g.xOff.length ≤ 1048576 := by
  have h1 := szL_mem (z := zAspGate) h
  have h2 : zAspGate g = g.xActive.length + g.xAsked.length + g.xOff.length := rfl
  unfold zL at hz; omega
set_option maxRecDepth 100000 in
set_option maxHeartbeats 4000000 in
theorem l14Copy_n (cs : List Value) (x : DAspBook) (w : World) (h : FAspBook w cs x) (hz : zAspBook x ≤ 1048576) : Calls Try.prog 111 #[.agg cs.toArray] w fun e w' => ∃ cs' f, e = .returned (.agg cs'.toArray) ∧ EAspBook w' f cs' x ∧ Nw w.heap.size w'.heap.size f ∧ Below w.heap.size w w' := by
  obtain ⟨v0, v1, rfl, h0, h1⟩ := h
  obtain ⟨A0, q0, rfl⟩ := h0.slice
  obtain ⟨A1, q1, rfl⟩ := RdS.slice h1
  have hc0 := h0.cap
  have hc1 := RdS.cap h1
  have H0 := Lib.hid h0
  have H1 := Lib.hid h1
  have Hs0 := Lib.hid (show x.xWish.length ≤ 1048576 by unfold zAspBook at hz; omega)
  have Hx := Lib.hid (show ∀ g ∈ x.xGates, g.xActive.length ≤ 1048576 ∧ g.xAsked.length ≤ 1048576 ∧ g.xOff.length ≤ 1048576 from fun g hg => zGate_mem hg (by unfold zAspBook at hz; omega))
  have hn1 : x.xGates.length ≤ 1048576 := by unfold zAspBook zL at hz; omega
  clear h0 h1 hz
  generalize hl0 : x.xWish.length = n0 at *
  have Hl0 := Lib.hid hl0
  clear hl0
  generalize hl1 : x.xGates.length = n1 at *
  have Hl1 := Lib.hid hl1
  clear hl1
  have K := Lib.hid ((Blk.new (w := w) (b := w.heap.size) #[.slice A0 n0 q0, .slice A1 n1 q1] 38 rfl).alloc (.cells #[.slice none 0 0, .slice none 0 0] 38))
  have R := Lib.hid (Blk.new (w := (w.alloc (.cells #[.slice A0 n0 q0, .slice A1 n1 q1] 38))) (b := w.heap.size + 1) #[.slice none 0 0, .slice none 0 0] 38 (by simp))
  have HB := Lib.hid (((Below.refl w.heap.size w).alloc (Nat.le_refl _) (.cells #[.slice A0 n0 q0, .slice A1 n1 q1] 38)).alloc (by simp) (.cells #[.slice none 0 0, .slice none 0 0] 38))
  have hs2 : ((w.alloc (.cells #[.slice A0 n0 q0, .slice A1 n1 q1] 38)).alloc (.cells #[.slice none 0 0, .slice none 0 0] 38)).heap.size = w.heap.size + 2 := by simp
  have L0 := OwIn.lit0 ((w.alloc (.cells #[.slice A0 n0 q0, .slice A1 n1 q1] 38)).alloc (.cells #[.slice none 0 0, .slice none 0 0] 38))
  rw [hs2] at L0
  have LO := Lib.hid L0
  have bl := (Below.refl (((w.alloc (.cells #[.slice A0 n0 q0, .slice A1 n1 q1] 38)).alloc (.cells #[.slice none 0 0, .slice none 0 0] 38))).heap.size ((w.alloc (.cells #[.slice A0 n0 q0, .slice A1 n1 q1] 38)).alloc (.cells #[.slice none 0 0, .slice none 0 0] 38))).alloc (Nat.le_refl _) (.cells #[] 3)
  replace K := Lib.hid (K.out.keep bl)
  replace R := Lib.hid (R.out.keep bl)
  replace HB := Lib.hid (HB.out.trans (bl.mono HB.out.size))
  have RD := Lib.hid (H0.out.below HB.out)
  have LN := Lib.hid (show Nw (w.heap.size + 2) (((w.alloc (.cells #[.slice A0 n0 q0, .slice A1 n1 q1] 38)).alloc (.cells #[.slice none 0 0, .slice none 0 0] 38)).alloc (.cells #[] 3)).heap.size [w.heap.size + 2] from ⟨by simp, by simp⟩)
  have k0 := K.out.at (i := 0) rfl
  clear bl L0 hs2
  go_enter Try.func111, Try.ntmps111
  go_wp2_with (at_builtin; go_loud (refine wpList_appIn (lo := w.heap.size + 2) _ rfl (.tmp 6) (.tmp 8) rfl rfl rfl LO.out LN.out RD.out (by rw [Hl0.out]; have := Hs0.out; simp; omega) (by simp) ?_))
  intro V0 w1 f0 o0 m0 g0
  try rw [List.nil_append] at o0
  have b1 : Below (w.heap.size + 2) (((w.alloc (.cells #[.slice A0 n0 q0, .slice A1 n1 q1] 38)).alloc (.cells #[.slice none 0 0, .slice none 0 0] 38)).alloc (.cells #[] 3)) w1 := (Below.refl _ _).grown g0 (by simp) (by simp [Value.ownBlock])
  replace K := Lib.hid (K.out.below b1 (by omega))
  replace R := Lib.hid (R.out.below b1 (by omega))
  replace HB := Lib.hid (HB.out.trans (b1.mono (by omega)))
  have Z1 := Lib.hid (show w.heap.size + 3 ≤ w1.heap.size by have := b1.size; simpa using this)
  have O0 := Lib.hid o0
  have N0 := Lib.hid m0
  obtain ⟨B0, d0, rfl⟩ := o0.rd.slice
  rw [Hl0.out] at *
  clear o0 m0 g0 b1 k0 LO LN RD
  -- the gates' literal, and the copy
  have ba := (Below.refl w1.heap.size w1).alloc (Nat.le_refl _) (.cells #[] 153)
  have bb := (Below.refl (w1.alloc (.cells #[] 153)).heap.size (w1.alloc (.cells #[] 153))).alloc (Nat.le_refl _) (.cells #[.slice B0 n0 d0, .slice (some ⟨w1.heap.size, 0, none⟩) 0 0] 38)
  replace K := Lib.hid ((K.out.keep ba).keep bb)
  replace R := Lib.hid ((R.out.keep ba).keep bb)
  have C := Lib.hid (Blk.new (w := w1.alloc (.cells #[] 153)) (b := w1.heap.size + 1) #[.slice B0 n0 d0, .slice (some ⟨w1.heap.size, 0, none⟩) 0 0] 38 (by simp))
  replace O0 := Lib.hid ((O0.out.below ba).below bb)
  have G0 := Lib.hid ((OwL.lit0 (e := 153) (m := 6) (E := EAspGate) w1).below EAspGate.framed EAspGate.inside bb)
  replace HB := Lib.hid ((HB.out.trans (ba.mono HB.out.size)).trans (bb.mono (by have := HB.out.size; simp; omega)))
  have S2 := Lib.hid (show ((w1.alloc (.cells #[] 153)).alloc (.cells #[.slice B0 n0 d0, .slice (some ⟨w1.heap.size, 0, none⟩) 0 0] 38)).heap.size = w1.heap.size + 2 by simp)
  clear ba bb
  go_wp2
  generalize World.alloc (World.alloc w1 _) _ = w2 at *
  go_loopw [4] (fun i w3 => ∃ (j : Nat) (v : Value) (f : List Nat), j ≤ n1 ∧ i = .int .i64 j ∧ OwL 153 6 EAspGate w3 f v (x.xGates.take j) ∧ Nw w1.heap.size w3.heap.size f ∧ w1.heap.size + 1 ∉ f ∧ w1.heap.size + 2 ≤ w3.heap.size ∧ Blk w3 (w1.heap.size + 1) [.slice B0 n0 d0, v] ∧ Blk w3 w.heap.size [.slice A0 n0 q0, .slice A1 n1 q1] ∧ Blk w3 (w.heap.size + 1) [.slice none 0 0, .slice none 0 0] ∧ OwIn w3 f0 (.slice B0 n0 d0) x.xWish ∧ Below w.heap.size w w3) (fun i _ => n1 - (intOf i).toNat)
  case atStart => exact ⟨0, _, [w1.heap.size], by omega, rfl, G0.out, ⟨by simp, by have := S2.out; simp; omega⟩, by simp, by have := S2.out; omega, C.out, K.out, R.out, O0.out, HB.out⟩
  case round =>
    clear K R C O0 G0 HB S2
    obtain ⟨j, v, f, hj, rfl, ho, hnw, hnf, hzz, hc, hk, hr, ho0, hb⟩ := hrel
    have G := Lib.hid ho
    have N := Lib.hid hnw
    have NF := Lib.hid hnf
    have Z := Lib.hid hzz
    have C := Lib.hid hc
    have K := Lib.hid hk
    have R := Lib.hid hr
    have O0 := Lib.hid ho0
    have HB := Lib.hid hb
    obtain ⟨GA, gc, hgv⟩ := OwL.slice ho
    have htl : (x.xGates.take j).length = j := by rw [List.length_take, Hl1.out]; omega
    rw [htl] at hgv
    have Hgv := Lib.hid hgv
    clear htl
    clear ho hnw hnf hzz hc hk hr ho0 hb hgv
    have k1 := K.out.at (i := 1) rfl
    by_cases hlt : j < n1
    · obtain ⟨ad, cs, hkk, rfl, hcl, hca, hE⟩ := RdS.at_ H1.out hlt
      obtain ⟨u2, u3, u4, rfl, p2, p3, p4⟩ := hE
      have hgx := Hx.out _ (List.getElem_mem hkk)
      have Hgx := Lib.hid hgx
      clear hgx
      have Htk := Lib.hid (List.take_succ_eq_append_getElem hkk)
      have Hlen := Lib.hid (show (x.xGates.take j).length + [x.xGates[j]].length ≤ 1073741824 by simp; omega)
      obtain ⟨a2, e2, rfl⟩ := p2.slice
      obtain ⟨a3, e3, rfl⟩ := p3.slice
      obtain ⟨a4, e4, rfl⟩ := p4.slice
      have c0 := cellKeep hca.c0 HB.out
      have c1 := cellKeep (hca.ci 0 rfl) HB.out
      have c2 := cellKeep (hca.ci 1 rfl) HB.out
      have c3 := cellKeep (hca.ci 2 rfl) HB.out
      have c4 := cellKeep (hca.ci 3 rfl) HB.out
      have c5 := cellKeep (hca.ci 4 rfl) HB.out
      have P2 := Lib.hid p2
      have P3 := Lib.hid p3
      have P4 := Lib.hid p4
      clear hca hcl p2 p3 p4
      generalize x.xGates[j] = g at *
      -- the gate's own variable
      have bg := (Below.refl wr.heap.size wr).alloc (Nat.le_refl _) (.cells #[.int .i64 g.xGate, .bool g.xUp, .slice a2 g.xActive.length e2, .slice a3 g.xAsked.length e3, .slice a4 g.xOff.length e4, .int .i64 g.xJam] 153)
      have V := Lib.hid (Blk.new (w := wr) (b := wr.heap.size) #[.int .i64 g.xGate, .bool g.xUp, .slice a2 g.xActive.length e2, .slice a3 g.xAsked.length e3, .slice a4 g.xOff.length e4, .int .i64 g.xJam] 153 rfl)
      have Nr := Lib.hid (show ∀ b ∈ f, b < wr.heap.size from fun b hb => (N.out.2 b hb).2)
      have hw0 := Z1.out
      have hwz := Z.out
      have N0r := Lib.hid (show ∀ b ∈ f0, b < wr.heap.size from fun b hb => O0.out.inside b hb)
      replace G := Lib.hid (G.out.below EAspGate.framed EAspGate.inside bg)
      replace C := Lib.hid (C.out.keep bg)
      replace K := Lib.hid (K.out.keep bg)
      replace R := Lib.hid (R.out.keep bg)
      replace O0 := Lib.hid (O0.out.below bg)
      replace HB := Lib.hid (HB.out.trans (bg.mono HB.out.size))
      clear bg
      -- field 2
      have hsz2 : (wr.alloc (.cells #[.int .i64 g.xGate, .bool g.xUp, .slice a2 g.xActive.length e2, .slice a3 g.xAsked.length e3, .slice a4 g.xOff.length e4, .int .i64 g.xJam] 153)).heap.size = wr.heap.size + 1 := by simp
      have bl := (Below.refl (wr.alloc (.cells #[.int .i64 g.xGate, .bool g.xUp, .slice a2 g.xActive.length e2, .slice a3 g.xAsked.length e3, .slice a4 g.xOff.length e4, .int .i64 g.xJam] 153)).heap.size (wr.alloc (.cells #[.int .i64 g.xGate, .bool g.xUp, .slice a2 g.xActive.length e2, .slice a3 g.xAsked.length e3, .slice a4 g.xOff.length e4, .int .i64 g.xJam] 153))).alloc (Nat.le_refl _) (.cells #[] 3)
      have L0 := OwIn.lit0 (wr.alloc (.cells #[.int .i64 g.xGate, .bool g.xUp, .slice a2 g.xActive.length e2, .slice a3 g.xAsked.length e3, .slice a4 g.xOff.length e4, .int .i64 g.xJam] 153))
      rw [hsz2] at L0
      have L := Lib.hid L0
      have LN := Lib.hid (show Nw (wr.heap.size + 1) ((wr.alloc (.cells #[.int .i64 g.xGate, .bool g.xUp, .slice a2 g.xActive.length e2, .slice a3 g.xAsked.length e3, .slice a4 g.xOff.length e4, .int .i64 g.xJam] 153)).alloc (.cells #[] 3)).heap.size [wr.heap.size + 1] from ⟨by simp, by simp only [List.mem_singleton, forall_eq, World.size_alloc, hsz2]; omega⟩)
      have LS := Lib.hid (show wr.heap.size + 1 ≤ ((wr.alloc (.cells #[.int .i64 g.xGate, .bool g.xUp, .slice a2 g.xActive.length e2, .slice a3 g.xAsked.length e3, .slice a4 g.xOff.length e4, .int .i64 g.xJam] 153)).alloc (.cells #[] 3)).heap.size by rw [World.size_alloc, hsz2]; omega)
      replace V := Lib.hid (V.out.keep bl)
      replace C := Lib.hid (C.out.keep bl)
      replace K := Lib.hid (K.out.keep bl)
      replace R := Lib.hid (R.out.keep bl)
      replace G := Lib.hid (G.out.below EAspGate.framed EAspGate.inside bl)
      replace O0 := Lib.hid (O0.out.below bl)
      replace HB := Lib.hid (HB.out.trans (bl.mono HB.out.size))
      have RD := Lib.hid (P2.out.below HB.out)
      have v2 := V.out.at (i := 2) rfl
      clear bl L0
      go_wp2_with (at_builtin; go_loud (refine wpList_appIn (lo := wr.heap.size + 1) _ rfl (.tmp 24) (.tmp 26) rfl rfl rfl L.out LN.out RD.out (by have := Hgx.out; simp; omega) LS.out ?_))
      intro V2 w2' f2 o m gg
      try rw [List.nil_append] at o
      have bb : Below (wr.heap.size + 1) ((wr.alloc (.cells #[.int .i64 g.xGate, .bool g.xUp, .slice a2 g.xActive.length e2, .slice a3 g.xAsked.length e3, .slice a4 g.xOff.length e4, .int .i64 g.xJam] 153)).alloc (.cells #[] 3)) w2' := (Below.refl _ _).grown gg LS.out (by simp [Value.ownBlock])
      have hz2 : wr.heap.size + 1 + 1 ≤ w2'.heap.size := by have h := bb.size; rw [World.size_alloc, hsz2] at h; exact h
      replace V := Lib.hid (V.out.below bb (by omega))
      replace C := Lib.hid (C.out.below bb (by omega))
      replace K := Lib.hid (K.out.below bb (by omega))
      replace R := Lib.hid (R.out.below bb (by omega))
      replace G := Lib.hid (OwL.keep EAspGate.framed G.out (fun b hb => bb.block b (by have := Nr.out b hb; omega)))
      replace O0 := Lib.hid (O0.out.keep (fun b hb => bb.block b (by have := N0r.out b hb; omega)))
      replace HB := Lib.hid (HB.out.trans (bb.mono (by omega)))
      have O2 := Lib.hid o
      have N2 := Lib.hid m
      obtain ⟨B2, d2, rfl⟩ := o.rd.slice
      clear o m gg bb L LN RD v2 LS hsz2
      have v2 := V.out.at (i := 2) rfl
      have y2 := V.out.frozen 2
      replace V := Lib.hid (V.out.set (i := 2) (v := .slice B2 g.xActive.length d2) (by simp))
      replace C := Lib.hid (C.out.far (b' := wr.heap.size) (o := 2) (v := .slice B2 g.xActive.length d2) (by omega))
      replace K := Lib.hid (K.out.far (b' := wr.heap.size) (o := 2) (v := .slice B2 g.xActive.length d2) (by omega))
      replace R := Lib.hid (R.out.far (b' := wr.heap.size) (o := 2) (v := .slice B2 g.xActive.length d2) (by omega))
      replace G := Lib.hid (OwL.set (g := wr.heap.size) (o := 2) (u := .slice B2 g.xActive.length d2) EAspGate.framed G.out (fun h => by have := Nr.out _ h; omega))
      replace O0 := Lib.hid (O0.out.set (g := wr.heap.size) (o := 2) (u := .slice B2 g.xActive.length d2) (fun h => by have := N0r.out _ h; omega))
      replace O2 := Lib.hid (O2.out.set (g := wr.heap.size) (o := 2) (u := .slice B2 g.xActive.length d2) (fun h => by have := (N2.out.2 _ h).1; omega))
      replace HB := Lib.hid (HB.out.setCell (p := ⟨wr.heap.size, 2, none⟩) (by simp; omega) (.slice B2 g.xActive.length d2))
      simp only [List.set_cons_succ, List.set_cons_zero] at V
      -- field 3
      have hsz3 : (w2'.setCell ⟨wr.heap.size, 2, none⟩ (.slice B2 g.xActive.length d2)).heap.size = w2'.heap.size := by simp only [size_set]
      have bl := (Below.refl (w2'.setCell ⟨wr.heap.size, 2, none⟩ (.slice B2 g.xActive.length d2)).heap.size (w2'.setCell ⟨wr.heap.size, 2, none⟩ (.slice B2 g.xActive.length d2))).alloc (Nat.le_refl _) (.cells #[] 3)
      have L0 := OwIn.lit0 (w2'.setCell ⟨wr.heap.size, 2, none⟩ (.slice B2 g.xActive.length d2))
      rw [hsz3] at L0
      have L := Lib.hid L0
      have LN := Lib.hid (show Nw (w2'.heap.size) ((w2'.setCell ⟨wr.heap.size, 2, none⟩ (.slice B2 g.xActive.length d2)).alloc (.cells #[] 3)).heap.size [w2'.heap.size] from ⟨by simp, by simp only [List.mem_singleton, forall_eq, World.size_alloc, hsz3]; omega⟩)
      have LS := Lib.hid (show w2'.heap.size ≤ ((w2'.setCell ⟨wr.heap.size, 2, none⟩ (.slice B2 g.xActive.length d2)).alloc (.cells #[] 3)).heap.size by rw [World.size_alloc, hsz3]; omega)
      replace V := Lib.hid (V.out.keep bl)
      replace C := Lib.hid (C.out.keep bl)
      replace K := Lib.hid (K.out.keep bl)
      replace R := Lib.hid (R.out.keep bl)
      replace G := Lib.hid (G.out.below EAspGate.framed EAspGate.inside bl)
      replace O0 := Lib.hid (O0.out.below bl)
      replace O2 := Lib.hid (O2.out.below bl)
      replace HB := Lib.hid (HB.out.trans (bl.mono HB.out.size))
      have RD := Lib.hid (P3.out.below HB.out)
      have v3 := V.out.at (i := 3) rfl
      clear bl L0
      go_wp2_with (at_builtin; go_loud (refine wpList_appIn (lo := w2'.heap.size) _ rfl (.tmp 29) (.tmp 31) rfl rfl rfl L.out LN.out RD.out (by have := Hgx.out; simp; omega) LS.out ?_))
      intro V3 w3' f3 o m gg
      try rw [List.nil_append] at o
      have bb : Below (w2'.heap.size) ((w2'.setCell ⟨wr.heap.size, 2, none⟩ (.slice B2 g.xActive.length d2)).alloc (.cells #[] 3)) w3' := (Below.refl _ _).grown gg LS.out (by simp [Value.ownBlock])
      have hz3 : w2'.heap.size + 1 ≤ w3'.heap.size := by have h := bb.size; rw [World.size_alloc, hsz3] at h; exact h
      replace V := Lib.hid (V.out.below bb (by omega))
      replace C := Lib.hid (C.out.below bb (by omega))
      replace K := Lib.hid (K.out.below bb (by omega))
      replace R := Lib.hid (R.out.below bb (by omega))
      replace G := Lib.hid (OwL.keep EAspGate.framed G.out (fun b hb => bb.block b (by have := Nr.out b hb; omega)))
      replace O0 := Lib.hid (O0.out.keep (fun b hb => bb.block b (by have := N0r.out b hb; omega)))
      replace O2 := Lib.hid (O2.out.keep (fun b hb => bb.block b (by have := (N2.out.2 b hb).2; omega)))
      replace HB := Lib.hid (HB.out.trans (bb.mono (by omega)))
      have O3 := Lib.hid o
      have N3 := Lib.hid m
      obtain ⟨B3, d3, rfl⟩ := o.rd.slice
      clear o m gg bb L LN RD v3 LS hsz3
      have v3 := V.out.at (i := 3) rfl
      have y3 := V.out.frozen 3
      replace V := Lib.hid (V.out.set (i := 3) (v := .slice B3 g.xAsked.length d3) (by simp))
      replace C := Lib.hid (C.out.far (b' := wr.heap.size) (o := 3) (v := .slice B3 g.xAsked.length d3) (by omega))
      replace K := Lib.hid (K.out.far (b' := wr.heap.size) (o := 3) (v := .slice B3 g.xAsked.length d3) (by omega))
      replace R := Lib.hid (R.out.far (b' := wr.heap.size) (o := 3) (v := .slice B3 g.xAsked.length d3) (by omega))
      replace G := Lib.hid (OwL.set (g := wr.heap.size) (o := 3) (u := .slice B3 g.xAsked.length d3) EAspGate.framed G.out (fun h => by have := Nr.out _ h; omega))
      replace O0 := Lib.hid (O0.out.set (g := wr.heap.size) (o := 3) (u := .slice B3 g.xAsked.length d3) (fun h => by have := N0r.out _ h; omega))
      replace O2 := Lib.hid (O2.out.set (g := wr.heap.size) (o := 3) (u := .slice B3 g.xAsked.length d3) (fun h => by have := (N2.out.2 _ h).1; omega))
      replace O3 := Lib.hid (O3.out.set (g := wr.heap.size) (o := 3) (u := .slice B3 g.xAsked.length d3) (fun h => by have := (N3.out.2 _ h).1; omega))
      replace HB := Lib.hid (HB.out.setCell (p := ⟨wr.heap.size, 3, none⟩) (by simp; omega) (.slice B3 g.xAsked.length d3))
      simp only [List.set_cons_succ, List.set_cons_zero] at V
      -- field 4
      have hsz4 : (w3'.setCell ⟨wr.heap.size, 3, none⟩ (.slice B3 g.xAsked.length d3)).heap.size = w3'.heap.size := by simp only [size_set]
      have bl := (Below.refl (w3'.setCell ⟨wr.heap.size, 3, none⟩ (.slice B3 g.xAsked.length d3)).heap.size (w3'.setCell ⟨wr.heap.size, 3, none⟩ (.slice B3 g.xAsked.length d3))).alloc (Nat.le_refl _) (.cells #[] 3)
      have L0 := OwIn.lit0 (w3'.setCell ⟨wr.heap.size, 3, none⟩ (.slice B3 g.xAsked.length d3))
      rw [hsz4] at L0
      have L := Lib.hid L0
      have LN := Lib.hid (show Nw (w3'.heap.size) ((w3'.setCell ⟨wr.heap.size, 3, none⟩ (.slice B3 g.xAsked.length d3)).alloc (.cells #[] 3)).heap.size [w3'.heap.size] from ⟨by simp, by simp only [List.mem_singleton, forall_eq, World.size_alloc, hsz4]; omega⟩)
      have LS := Lib.hid (show w3'.heap.size ≤ ((w3'.setCell ⟨wr.heap.size, 3, none⟩ (.slice B3 g.xAsked.length d3)).alloc (.cells #[] 3)).heap.size by rw [World.size_alloc, hsz4]; omega)
      replace V := Lib.hid (V.out.keep bl)
      replace C := Lib.hid (C.out.keep bl)
      replace K := Lib.hid (K.out.keep bl)
      replace R := Lib.hid (R.out.keep bl)
      replace G := Lib.hid (G.out.below EAspGate.framed EAspGate.inside bl)
      replace O0 := Lib.hid (O0.out.below bl)
      replace O2 := Lib.hid (O2.out.below bl)
      replace O3 := Lib.hid (O3.out.below bl)
      replace HB := Lib.hid (HB.out.trans (bl.mono HB.out.size))
      have RD := Lib.hid (P4.out.below HB.out)
      have v4 := V.out.at (i := 4) rfl
      clear bl L0
      go_wp2_with (at_builtin; go_loud (refine wpList_appIn (lo := w3'.heap.size) _ rfl (.tmp 34) (.tmp 36) rfl rfl rfl L.out LN.out RD.out (by have := Hgx.out; simp; omega) LS.out ?_))
      intro V4 w4' f4 o m gg
      try rw [List.nil_append] at o
      have bb : Below (w3'.heap.size) ((w3'.setCell ⟨wr.heap.size, 3, none⟩ (.slice B3 g.xAsked.length d3)).alloc (.cells #[] 3)) w4' := (Below.refl _ _).grown gg LS.out (by simp [Value.ownBlock])
      have hz4 : w3'.heap.size + 1 ≤ w4'.heap.size := by have h := bb.size; rw [World.size_alloc, hsz4] at h; exact h
      replace V := Lib.hid (V.out.below bb (by omega))
      replace C := Lib.hid (C.out.below bb (by omega))
      replace K := Lib.hid (K.out.below bb (by omega))
      replace R := Lib.hid (R.out.below bb (by omega))
      replace G := Lib.hid (OwL.keep EAspGate.framed G.out (fun b hb => bb.block b (by have := Nr.out b hb; omega)))
      replace O0 := Lib.hid (O0.out.keep (fun b hb => bb.block b (by have := N0r.out b hb; omega)))
      replace O2 := Lib.hid (O2.out.keep (fun b hb => bb.block b (by have := (N2.out.2 b hb).2; omega)))
      replace O3 := Lib.hid (O3.out.keep (fun b hb => bb.block b (by have := (N3.out.2 b hb).2; omega)))
      replace HB := Lib.hid (HB.out.trans (bb.mono (by omega)))
      have O4 := Lib.hid o
      have N4 := Lib.hid m
      obtain ⟨B4, d4, rfl⟩ := o.rd.slice
      clear o m gg bb L LN RD v4 LS hsz4
      have v4 := V.out.at (i := 4) rfl
      have y4 := V.out.frozen 4
      replace V := Lib.hid (V.out.set (i := 4) (v := .slice B4 g.xOff.length d4) (by simp))
      replace C := Lib.hid (C.out.far (b' := wr.heap.size) (o := 4) (v := .slice B4 g.xOff.length d4) (by omega))
      replace K := Lib.hid (K.out.far (b' := wr.heap.size) (o := 4) (v := .slice B4 g.xOff.length d4) (by omega))
      replace R := Lib.hid (R.out.far (b' := wr.heap.size) (o := 4) (v := .slice B4 g.xOff.length d4) (by omega))
      replace G := Lib.hid (OwL.set (g := wr.heap.size) (o := 4) (u := .slice B4 g.xOff.length d4) EAspGate.framed G.out (fun h => by have := Nr.out _ h; omega))
      replace O0 := Lib.hid (O0.out.set (g := wr.heap.size) (o := 4) (u := .slice B4 g.xOff.length d4) (fun h => by have := N0r.out _ h; omega))
      replace O2 := Lib.hid (O2.out.set (g := wr.heap.size) (o := 4) (u := .slice B4 g.xOff.length d4) (fun h => by have := (N2.out.2 _ h).1; omega))
      replace O3 := Lib.hid (O3.out.set (g := wr.heap.size) (o := 4) (u := .slice B4 g.xOff.length d4) (fun h => by have := (N3.out.2 _ h).1; omega))
      replace O4 := Lib.hid (O4.out.set (g := wr.heap.size) (o := 4) (u := .slice B4 g.xOff.length d4) (fun h => by have := (N4.out.2 _ h).1; omega))
      replace HB := Lib.hid (HB.out.setCell (p := ⟨wr.heap.size, 4, none⟩) (by simp; omega) (.slice B4 g.xOff.length d4))
      simp only [List.set_cons_succ, List.set_cons_zero] at V
      -- the row of the gate, and the append
      have hsz5 : (w4'.setCell ⟨wr.heap.size, 4, none⟩ (.slice B4 g.xOff.length d4)).heap.size = w4'.heap.size := by simp only [size_set]
      have be := (Below.refl (w4'.setCell ⟨wr.heap.size, 4, none⟩ (.slice B4 g.xOff.length d4)).heap.size (w4'.setCell ⟨wr.heap.size, 4, none⟩ (.slice B4 g.xOff.length d4))).alloc (Nat.le_refl _) (.cells #[.int .i64 g.xGate, .bool g.xUp, .slice B2 g.xActive.length d2, .slice B3 g.xAsked.length d3, .slice B4 g.xOff.length d4, .int .i64 g.xJam] 153)
      have KN := Lib.hid (Blk.new (w := (w4'.setCell ⟨wr.heap.size, 4, none⟩ (.slice B4 g.xOff.length d4))) (b := w4'.heap.size) #[.int .i64 g.xGate, .bool g.xUp, .slice B2 g.xActive.length d2, .slice B3 g.xAsked.length d3, .slice B4 g.xOff.length d4, .int .i64 g.xJam] 153 hsz5.symm)
      have VL := Lib.hid V.out
      have cc1 := C.out.at (i := 1) rfl
      replace C := Lib.hid (C.out.keep be)
      replace K := Lib.hid (K.out.keep be)
      replace R := Lib.hid (R.out.keep be)
      replace G := Lib.hid (G.out.below EAspGate.framed EAspGate.inside be)
      replace O0 := Lib.hid (O0.out.below be)
      have EG := Lib.hid (show EAspGate ((w4'.setCell ⟨wr.heap.size, 4, none⟩ (.slice B4 g.xOff.length d4)).alloc (.cells #[.int .i64 g.xGate, .bool g.xUp, .slice B2 g.xActive.length d2, .slice B3 g.xAsked.length d3, .slice B4 g.xOff.length d4, .int .i64 g.xJam] 153)) (f2 ++ f3 ++ f4) [.int .i64 g.xGate, .bool g.xUp, .slice B2 g.xActive.length d2, .slice B3 g.xAsked.length d3, .slice B4 g.xOff.length d4, .int .i64 g.xJam] g from ⟨_, _, _, _, _, _, rfl, O2.out.below be, O3.out.below be, O4.out.below be, rfl⟩)
      replace HB := Lib.hid (HB.out.trans (be.mono HB.out.size))
      have hs5 : ((w4'.setCell ⟨wr.heap.size, 4, none⟩ (.slice B4 g.xOff.length d4)).alloc (.cells #[.int .i64 g.xGate, .bool g.xUp, .slice B2 g.xActive.length d2, .slice B3 g.xAsked.length d3, .slice B4 g.xOff.length d4, .int .i64 g.xJam] 153)).heap.size = w4'.heap.size + 1 := by rw [World.size_alloc, hsz5]
      have n23 := N2.out.app N3.out (by omega) (by omega)
      have NG := Lib.hid (show Nw w1.heap.size ((w4'.setCell ⟨wr.heap.size, 4, none⟩ (.slice B4 g.xOff.length d4)).alloc (.cells #[.int .i64 g.xGate, .bool g.xUp, .slice B2 g.xActive.length d2, .slice B3 g.xAsked.length d3, .slice B4 g.xOff.length d4, .int .i64 g.xJam] 153)).heap.size (f2 ++ f3 ++ f4) from (n23.app N4.out (by omega) (by omega)).mono (by omega) (by rw [hs5]; omega))
      have ND := Lib.hid (show ∀ b ∈ f2 ++ f3 ++ f4, wr.heap.size + 1 ≤ b from fun b hb => ((n23.app N4.out (by omega) (by omega)).2 b hb).1)
      have HD := Lib.hid (show ∀ b ∈ f2 ++ f3 ++ f4, b ∉ f from fun b hb hf => by have := ND.out b hb; have := Nr.out b hf; omega)
      have NF5 := Lib.hid (show Nw w1.heap.size ((w4'.setCell ⟨wr.heap.size, 4, none⟩ (.slice B4 g.xOff.length d4)).alloc (.cells #[.int .i64 g.xGate, .bool g.xUp, .slice B2 g.xActive.length d2, .slice B3 g.xAsked.length d3, .slice B4 g.xOff.length d4, .int .i64 g.xJam] 153)).heap.size f from N.out.mono (Nat.le_refl _) (by rw [hs5]; omega))
      have LO5 := Lib.hid (show w1.heap.size ≤ ((w4'.setCell ⟨wr.heap.size, 4, none⟩ (.slice B4 g.xOff.length d4)).alloc (.cells #[.int .i64 g.xGate, .bool g.xUp, .slice B2 g.xActive.length d2, .slice B3 g.xAsked.length d3, .slice B4 g.xOff.length d4, .int .i64 g.xJam] 153)).heap.size by rw [hs5]; omega)
      have Hs5 := Lib.hid hs5
      rw [Hgv.out] at G cc1
      clear be V n23 hs5 O2 O3 O4 v2 v3 y2 y3
      go_wp2_with (first | (refine wpList_load_blk rfl 153 (.tmp 5) rfl VL.out rfl _ Try.underlying153 rfl isz_AspGate ?_) | (at_builtin; go_loud (refine wpList_push (lo := w1.heap.size) (a := ⟨w4'.heap.size, 0, none⟩) (c := 1) (ys := [g]) EAspGate.framed EAspGate.inside elemAspGate _ rfl (.tmp 40) (.tmp 42) rfl rfl rfl G.out NF5.out LO5.out (Els.one EG.out rfl) (by simpa using NG.out) (by simpa using HD.out) (fun i u hu => by rw [add_zero_blk]; exact KN.out.at hu) (by simp [Value.oneCell']) Hlen.out ?_)))
      intro v' w6 bs' h1 h2 h3 h4
      rw [← Htk.out] at h1
      obtain ⟨GA', gc', hv'⟩ := OwL.slice h1
      have htl' : (x.xGates.take (j + 1)).length = j + 1 := by rw [List.length_take, Hl1.out]; omega
      rw [htl'] at hv'
      subst hv'
      clear htl'
      have GN := Lib.hid h1
      have NN := Lib.hid h2
      have bq : Below w1.heap.size ((w4'.setCell ⟨wr.heap.size, 4, none⟩ (.slice B4 g.xOff.length d4)).alloc (.cells #[.int .i64 g.xGate, .bool g.xUp, .slice B2 g.xActive.length d2, .slice B3 g.xAsked.length d3, .slice B4 g.xOff.length d4, .int .i64 g.xJam] 153)) w6 := (Below.refl _ _).grown h3 LO5.out (fun k hk' => (NF5.out.2 k (G.out.own_mem k (by simp [hk']))).1)
      have hgr := h3.block
      have NFn := Lib.hid (show w1.heap.size + 1 ∉ bs' from fun hb => by
        rcases h4 _ hb with h | h | h
        · exact NF.out h
        · have := ND.out _ (by simpa using h); omega
        · have := Hs5.out; omega)
      have hnk : ∀ b, b < ((w4'.setCell ⟨wr.heap.size, 4, none⟩ (.slice B4 g.xOff.length d4)).alloc (.cells #[.int .i64 g.xGate, .bool g.xUp, .slice B2 g.xActive.length d2, .slice B3 g.xAsked.length d3, .slice B4 g.xOff.length d4, .int .i64 g.xJam] 153)).heap.size → b ∉ f → w6.heap[b]? = ((w4'.setCell ⟨wr.heap.size, 4, none⟩ (.slice B4 g.xOff.length d4)).alloc (.cells #[.int .i64 g.xGate, .bool g.xUp, .slice B2 g.xActive.length d2, .slice B3 g.xAsked.length d3, .slice B4 g.xOff.length d4, .int .i64 g.xJam] 153)).heap[b]? := fun b hb hf => hgr b hb (fun e => hf (G.out.own_mem b (by rw [← e]; simp)))
      have hs6 := Hs5.out
      have Cn := Lib.hid (show Blk w6 (w1.heap.size + 1) _ from C.out.at_heap (hnk _ (by omega) NF.out) (Nat.le_trans (by omega) h3.size))
      have Kn := Lib.hid (K.out.below bq (by omega))
      have Rn := Lib.hid (R.out.below bq (by omega))
      have On := Lib.hid (O0.out.keep (fun b hb => bq.block b (by have := N0.out.2 b hb; omega)))
      have HBn := Lib.hid (HB.out.trans (bq.mono (by omega)))
      have Zn := Lib.hid (show w1.heap.size + 2 ≤ w6.heap.size from Nat.le_trans (by omega) h3.size)
      clear h1 h2 h3 h4 bq hgr hnk hs6 cc1
      have cc1 := Cn.out.at (i := 1) rfl
      have cy1 := Cn.out.frozen 1
      go_wp2
      refine ⟨⟨j + 1, _, bs', by omega, by go_num, OwL.set EAspGate.framed GN.out NFn.out, by have h := NN.out; simpa [size_set] using h, NFn.out, by have h := Zn.out; simpa [size_set] using h, ?_, Kn.out.far (by omega), Rn.out.far (by omega), On.out.set (fun h => by have := (N0.out.2 _ h).2; omega), HBn.out.setCell (by simp; omega) _⟩, by simp [intOf]; omega⟩
      exact Cn.out.set (i := 1) (by simp)
    · have : j = n1 := by omega
      subst this
      have g := G.out
      rw [List.take_of_length_le (by rw [Hl1.out]; omega)] at g
      have GF := Lib.hid g
      rw [Hgv.out] at C GF
      clear g G
      go_wp2_with (first | (refine wpList_load_blk rfl 38 (.tmp 3) rfl C.out rfl _ Try.underlying38 rfl isz_AspBook ?_) | (refine wpList_store_blk rfl 38 (.tmp 2) (.tmp 45) rfl R.out _ rfl rfl rfl isz_AspBook (by kernel_rfl) ?_; intro w9 kk9 ff9 ss9))
      refine bodyPost_ret (v := .agg #[.slice B0 n0 d0, .slice GA j gc]) (results_rw1 rfl rfl (load_blk 38 kk9 _ Try.underlying38 rfl isz_AspBook)) rfl ?_
      have hz1 := Z1.out
      refine ⟨_, rfl, f0 ++ f, ⟨_, _, _, _, rfl, O0.out.frl ff9 (fun b hb => by have := (N0.out.2 b hb).1; simp; omega), OwL.frl EAspGate.framed EAspGate.inside GF.out ff9 (fun b hb => by have := (N.out.2 b hb).1; simp; omega), rfl⟩, ?_, below_frl1 HB.out (Nat.le_refl _) ff9 (by omega)⟩
      rw [ss9]
      exact (N0.out.mono (lo' := w.heap.size) (by omega) (Nat.le_refl _)).app N.out (by omega) (by have := Z.out; omega)
end Go.Proofs.Ythdjjgbjemaabaa
