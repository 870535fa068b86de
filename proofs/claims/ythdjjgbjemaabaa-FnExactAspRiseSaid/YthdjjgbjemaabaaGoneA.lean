/-
  A deed at a gateway of the program's book. (Written by wip/tools/genbookg.py.)
-/
import Derived.Test.YthdjjgbjemaabaaGoneC
import Derived.Test.YthdjjgbjemaabaaGoneK
import Derived.Test.YthdjjgbjemaabaaGoneI
import Derived.Test.YthdjjgbjemaabaaLine
namespace Go.Proofs.Ythdjjgbjemaabaa
open Go.ChangeShapes Go.WideShapes Go.ChangeAt Go.RowKit
set_option linter.unusedVariables false
set_option linter.unusedSimpArgs false

/-- What comes of a deed at a gateway that leaves all forgotten. -/
def AtPost (w : World) (x : DAspBook) (gate : Int) (ws : List DMsgWord) (e : Ending) (w' : World) : Prop := ∃ cs' v' f1 f2, e = .returned (.tuple #[.agg cs'.toArray, v']) ∧ EAspBook w' f1 cs' (goneF x gate) ∧ OwMsgWordS w' f2 v' (if aspOk x = true ∧ (atG x.xGates gate).isSome = true then ws else []) ∧ Nw w.heap.size w'.heap.size (f1 ++ f2) ∧ Below w.heap.size w w'
def sayF (x : DAspBook) (gate : Int) (ws : List DMsgWord) : Prop := True
set_option maxRecDepth 100000 in
set_option maxHeartbeats 4000000 in
theorem aspAt_n (fid : FuncId) (ws : List DMsgWord) (Hf : ∀ (b : Nat) (u0 : Value) (gate : Int) (up : Bool) (v1 v2 v3 : Value) (jam : Int) (w : World), Blk w b [u0, .int .i64 4, .int .i64 1, .int .i64 9, .int .i64 gate, .bool up, v1, .int .i64 9, .int .i64 1, .int .i64 9, v2, .int .i64 9, .int .i64 1, .int .i64 9, v3, .int .i64 6, .int .i64 0, .int .i64 999, .int .i64 jam, .slice none 0 0] → Calls Try.prog fid #[.pointer (some ⟨b, 0, none⟩)] w (HapPost w b u0 gate ws)) (Hcf : ∀ (args : Array Value) (w : World), (callFunc fid args).run Try.prog w = .ok (.enter fid args) w)
    (gate : Int) (cs : List Value) (x : DAspBook) (w : World) (h : FAspBook w cs x) (hz : zAspBook x ≤ 1048576) : Calls Try.prog 122 #[.agg cs.toArray, .int .i64 gate, .func (.func fid) #[] #[]] w (AtPost w x gate ws) := by
  have HF := Lib.hid h
  have Hz := Lib.hid hz
  have Hap := Lib.hid Hf
  have Hcall := Lib.hid Hcf
  clear Hcf
  obtain ⟨v0, v1, rfl, h0, h1⟩ := h
  have Hzz := Lib.hid (show x.xWish.length ≤ 1048576 ∧ ∀ g ∈ x.xGates, g.xActive.length ≤ 1048576 ∧ g.xAsked.length ≤ 1048576 ∧ g.xOff.length ≤ 1048576 from ⟨by unfold zAspBook at hz; omega, fun g hg => zGate_mem hg (by unfold zAspBook at hz; omega)⟩)
  clear h0 h1 hz Hf
  have H1 := Lib.hid (show aspOk x = false → goneF x gate = emptyBook ∧ (if aspOk x = true ∧ (atG x.xGates gate).isSome = true then ws else []) = [] from fun h => ⟨(gone_no h).1, by simp [h]⟩)
  have H2 := Lib.hid (show aspOk x = true → atG x.xGates gate = none → goneF x gate = x ∧ (if aspOk x = true ∧ (atG x.xGates gate).isSome = true then ws else []) = [] from fun h h2 => ⟨(gone_none h h2).1, by simp [h2]⟩)
  have H3 := Lib.hid (show ∀ k, aspOk x = true → atG x.xGates gate = some k → goneF x gate = { x with xGates := x.xGates.set k (zeroG gate) } ∧ (if aspOk x = true ∧ (atG x.xGates gate).isSome = true then ws else []) = ws from fun k h h2 => ⟨(gone_at h h2).1, by simp [h, h2]⟩)
  have K := Lib.hid (((Blk.new (w := w) (b := w.heap.size) #[v0, v1] 38 rfl).alloc (.cells #[.int .i64 gate] 3)).alloc (.cells #[.slice none 0 0, .slice none 0 0] 38))
  have Gb := Lib.hid ((Blk.new (w := w.alloc (.cells #[v0, v1] 38)) (b := w.heap.size + 1) #[.int .i64 gate] 3 (by simp)).alloc (.cells #[.slice none 0 0, .slice none 0 0] 38))
  have R := Lib.hid (Blk.new (w := (w.alloc (.cells #[v0, v1] 38)).alloc (.cells #[.int .i64 gate] 3)) (b := w.heap.size + 2) #[.slice none 0 0, .slice none 0 0] 38 (by simp))
  have HB := Lib.hid ((((Below.refl w.heap.size w).alloc (Nat.le_refl _) (.cells #[v0, v1] 38)).alloc (by simp) (.cells #[.int .i64 gate] 3)).alloc (by simp; omega) (.cells #[.slice none 0 0, .slice none 0 0] 38))
  have Z0 := Lib.hid (show w.heap.size + 3 = (((w.alloc (.cells #[v0, v1] 38)).alloc (.cells #[.int .i64 gate] 3)).alloc (.cells #[.slice none 0 0, .slice none 0 0] 38)).heap.size by simp)
  go_enter Try.func122, Try.ntmps122
  go_wp2_with (refine wpList_load_blk rfl 38 (.tmp 3) rfl K.out rfl _ Try.underlying38 rfl isz_AspBook ?_)
  refine (implAspOk_r _ x _ (HF.out.below HB.out) Hz.out).mono ?_
  rintro e w1 ⟨rfl, b1⟩
  replace K := Lib.hid (K.out.keep b1)
  replace Gb := Lib.hid (Gb.out.keep b1)
  replace R := Lib.hid (R.out.keep b1)
  replace HB := Lib.hid (HB.out.trans (b1.mono HB.out.size))
  have Z1 := Lib.hid (show w.heap.size + 3 ≤ w1.heap.size from Nat.le_trans (Nat.le_of_eq Z0.out) b1.size)
  clear b1 Z0
  rcases hok : aspOk x with _ | _
  · obtain ⟨he, hs⟩ := H1.out hok
    have HE := Lib.hid he
    have HS := Lib.hid hs
    clear he hs
    go_wp2_with (refine wpList_store_blk rfl 38 (.tmp 6) (.tmp 13) rfl R.out _ rfl rfl rfl isz_AspBook (by kernel_rfl) ?_; intro w9 kk9 ff9 ss9)
    refine bodyPost_ret (v := .tuple #[.agg #[.slice none 0 0, .slice none 0 0], .slice none 0 0]) (results_row2 rfl rfl rfl (load_blk 38 kk9 _ Try.underlying38 rfl isz_AspBook)) rfl ?_
    exact ⟨_, _, [], [], rfl, by rw [HE.out]; exact ⟨_, _, [], [], rfl, OwIn.nil _, OwL.nil _, rfl⟩, by rw [HS.out]; exact OwL.nil _, Nw.nil _ _, below_frl1 HB.out (Nat.le_refl _) ff9 (by omega)⟩
  go_wp2_with (refine wpList_load_blk rfl 38 (.tmp 3) rfl K.out rfl _ Try.underlying38 rfl isz_AspBook ?_)
  refine (aspCopy_n _ x _ (HF.out.below HB.out) Hz.out).mono ?_
  rintro e w2 ⟨cx, fx, rfl, ex, nx, b2⟩
  obtain ⟨x0, x1, g0, g1, rfl, p0, p1, hfx⟩ := ex
  obtain ⟨X0, c0, rfl⟩ := p0.rd.slice
  obtain ⟨X1, c1, rfl⟩ := OwL.slice p1
  subst hfx
  have NX := Lib.hid (nx.mono (lo' := w.heap.size + 3) Z1.out (Nat.le_refl _))
  have P0 := Lib.hid p0
  have P1 := Lib.hid p1
  replace K := Lib.hid (K.out.keep b2)
  replace Gb := Lib.hid (Gb.out.keep b2)
  replace R := Lib.hid (R.out.keep b2)
  have Z2 := Lib.hid (show w.heap.size + 3 ≤ w2.heap.size from Nat.le_trans Z1.out b2.size)
  replace HB := Lib.hid (HB.out.trans (b2.mono HB.out.size))
  clear p0 p1 nx b2
  go_wp2_with (first | (refine wpList_store_blk rfl 38 (.tmp 3) (.tmp 15) rfl K.out _ rfl rfl rfl isz_AspBook (by kernel_rfl) ?_; intro w8 kk8 ff8 ss8; have kx1 := kk8.at (i := 1) rfl) | fail)
  have hz2 := Z2.out
  have X := Lib.hid kk8
  replace Gb := Lib.hid (Gb.out.frl ff8 (by simp))
  replace R := Lib.hid (R.out.frl ff8 (by simp))
  replace P0 := Lib.hid (P0.out.frl ff8 (fun b hb => by have := (NX.out.2 b (by simp [hb])).1; simp; omega))
  replace P1 := Lib.hid (OwL.frl EAspGate.framed EAspGate.inside P1.out ff8 (fun b hb => by have := (NX.out.2 b (by simp [hb])).1; simp; omega))
  replace HB := Lib.hid (below_frl1 HB.out (Nat.le_refl _) ff8 (by omega))
  replace NX := Lib.hid (show Nw (w.heap.size + 3) w8.heap.size (g0 ++ g1) by rw [ss8]; exact NX.out)
  replace Z2 := Lib.hid (show w.heap.size + 3 ≤ w8.heap.size by rw [ss8]; exact Z2.out)
  clear kk8 ff8 ss8 kx1 hz2 K
  refine (indexGate_r _ x.xGates (w.heap.size + 1) gate _ (P1.out.rd (fun _ _ _ h => EAspGate.rd h)) Gb.out).mono ?_
  rintro e w3 ⟨rfl, b3⟩
  replace X := Lib.hid (X.out.keep b3)
  replace R := Lib.hid (R.out.keep b3)
  replace P0 := Lib.hid (P0.out.below b3)
  replace P1 := Lib.hid (OwL.below EAspGate.framed EAspGate.inside P1.out b3)
  replace HB := Lib.hid (HB.out.trans (b3.mono HB.out.size))
  replace NX := Lib.hid (NX.out.mono (Nat.le_refl _) b3.size)
  replace Z2 := Lib.hid (Nat.le_trans Z2.out b3.size)
  clear b3 Gb
  rcases hat : atG x.xGates gate with _ | k
  · obtain ⟨he, hs⟩ := H2.out hok hat
    have HE := Lib.hid he
    have HS := Lib.hid hs
    have hi : atI x.xGates gate = -1 := by simp [atI, hat]
    rw [hi]
    clear he hs hi hat
    go_wp2_with (first | (refine wpList_load_blk rfl 38 (.tmp 3) rfl X.out rfl _ Try.underlying38 rfl isz_AspBook ?_) | (refine wpList_store_blk rfl 38 (.tmp 6) (.tmp 22) rfl R.out _ rfl rfl rfl isz_AspBook (by kernel_rfl) ?_; intro w9 kk9 ff9 ss9))
    refine bodyPost_ret (v := .tuple #[.agg #[.slice X0 x.xWish.length c0, .slice X1 x.xGates.length c1], .slice none 0 0]) (results_row2 rfl rfl rfl (load_blk 38 kk9 _ Try.underlying38 rfl isz_AspBook)) rfl ?_
    have hz2 := Z2.out
    exact ⟨_, _, g0 ++ g1, [], rfl, by rw [HE.out]; exact ⟨_, _, _, _, rfl, P0.out.frl ff9 (fun b hb => by have := (NX.out.2 b (by simp [hb])).1; simp; omega), OwL.frl EAspGate.framed EAspGate.inside P1.out ff9 (fun b hb => by have := (NX.out.2 b (by simp [hb])).1; simp; omega), rfl⟩, by rw [HS.out]; exact OwL.nil _, by rw [List.append_nil, ss9]; exact NX.out.mono (by omega) (Nat.le_refl _), below_frl1 HB.out (Nat.le_refl _) ff9 (by omega)⟩
  obtain ⟨he, hs⟩ := H3.out k hok hat
  have HE := Lib.hid he
  have HS := Lib.hid hs
  have hi : atI x.xGates gate = (k : Int) := by simp [atI, hat]
  obtain ⟨hkl, hkg⟩ := atG_spec hat
  have Hgz := Lib.hid (Hzz.out.2 _ (List.getElem_mem hkl))
  have Hkg := Lib.hid hkg
  have Hkx := Lib.hid hkl
  rw [hi]
  clear he hs hi hat hkg
  go_wp2_with (refine wpList_load_blk rfl 38 (.tmp 3) rfl X.out rfl _ Try.underlying38 rfl isz_AspBook ?_)
  refine (aspTalkTo_n _ _ x k _ P0.out.rd (P1.out.rd (fun _ _ _ h => EAspGate.rd h)) Hkx.out ⟨Hzz.out.1, Hgz.out.1, Hgz.out.2.1, Hgz.out.2.2⟩).mono ?_
  rintro e w4 ⟨tb, u0, y1, y2, y3, q0, q1, q2, q3, rfl, ht, -, -, -, -, nt, b4⟩
  rw [Hkg.out] at ht
  have TB := Lib.hid ht
  have Ztb := Lib.hid (show w3.heap.size ≤ tb ∧ tb < w4.heap.size from nt.2 tb (by simp))
  replace X := Lib.hid (X.out.keep b4)
  replace R := Lib.hid (R.out.keep b4)
  replace P0 := Lib.hid (P0.out.below b4)
  replace P1 := Lib.hid (OwL.below EAspGate.framed EAspGate.inside P1.out b4)
  replace HB := Lib.hid (HB.out.trans (b4.mono HB.out.size))
  have Z4 := Lib.hid (show w3.heap.size ≤ w4.heap.size from b4.size)
  clear ht nt b4
  go_wp2_with fail
  rw [Hcall.out]
  simp only [Oper.upon]
  refine (Hap.out tb u0 gate _ y1 y2 y3 _ _ TB.out).mono ?_
  rintro e w5 ⟨rfl, u1, u2, u3, sv, f1, f2, f3, f4, k5, o1, o2, o3, o4, n5, r5⟩
  obtain ⟨D1, d1, rfl⟩ := o1.rd.slice
  obtain ⟨D2, d2, rfl⟩ := o2.rd.slice
  obtain ⟨D3, d3, rfl⟩ := o3.rd.slice
  have hz2 := Z2.out
  have htb := Ztb.out
  have hz4 := Z4.out
  have T5 := Lib.hid k5
  have O1 := Lib.hid o1
  have O2 := Lib.hid o2
  have O3 := Lib.hid o3
  have O4 := Lib.hid o4
  have N5 := Lib.hid n5
  replace X := Lib.hid (X.out.frl r5 (by simp; omega))
  replace R := Lib.hid (R.out.frl r5 (by simp; omega))
  replace P0 := Lib.hid (P0.out.frl r5 (fun b hb => by have := (NX.out.2 b (by simp [hb])).2; simp; omega))
  replace P1 := Lib.hid (OwL.frl EAspGate.framed EAspGate.inside P1.out r5 (fun b hb => by have := (NX.out.2 b (by simp [hb])).2; simp; omega))
  replace HB := Lib.hid (HB.out.trans (r5.below (fun b hb => by simp at hb; omega) HB.out.size))
  have Z5 := Lib.hid (show w4.heap.size ≤ w5.heap.size from r5.size)
  clear k5 o1 o2 o3 o4 n5 r5 TB hz2 htb hz4
  go_wp2_with fail
  have hpos : 0 < x.xGates.length := by have := Hkx.out; omega
  obtain ⟨g, rfl⟩ := P1.out.form0 hpos
  clear hpos Hgz Hkg Hzz H1 H2 H3 hkl HF Hz Hap Hcall
  generalize hn1 : x.xGates.length = n1 at *
  clear hn1
  generalize hn0 : x.xWish.length = n0 at *
  clear hn0
  have hkl := Hkx.out
  have hcap := RdS.cap (P1.out.rd (fun _ _ _ h => EAspGate.rd h))
  have hgm := OwL.own_mem P1.out g (by simp [Value.ownBlock])
  have hgb := NX.out.2 g (List.mem_append_right _ hgm)
  have Hgm := Lib.hid hgm
  have hz2 := Z2.out
  have htb := Ztb.out
  have hz4 := Z4.out
  have hz5 := Z5.out
  have bd : Below w5.heap.size w5 w5.drew := (Below.refl _ _).drew
  have S0 := Lib.hid (show Blk w5.drew w.heap.size [.slice X0 n0 c0, .slice (some ⟨g, 0, none⟩) n1 c1] ∧ Blk w5.drew tb [u0, .int .i64 4, .int .i64 1, .int .i64 9, .int .i64 gate, .bool false, .slice D1 0 d1, .int .i64 9, .int .i64 1, .int .i64 9, .slice D2 0 d2, .int .i64 9, .int .i64 1, .int .i64 9, .slice D3 0 d3, .int .i64 6, .int .i64 0, .int .i64 999, .int .i64 0, sv] from ⟨X.out.drew, T5.out.drew⟩)
  refine wp_region_line (fun y => Blk y w.heap.size [.slice X0 n0 c0, .slice (some ⟨g, 0, none⟩) n1 c1] ∧ Blk y tb [u0, .int .i64 4, .int .i64 1, .int .i64 9, .int .i64 gate, .bool false, .slice D1 0 d1, .int .i64 9, .int .i64 1, .int .i64 9, .slice D2 0 d2, .int .i64 9, .int .i64 1, .int .i64 9, .slice D3 0 d3, .int .i64 6, .int .i64 0, .int .i64 999, .int .i64 0, sv]) 6 (by kernel_rfl) ?_
  refine line_takeD 0 (some 29) (.pointer (some ⟨w.heap.size, 1, none⟩)) rfl rfl (by kernel_rfl) (by kernel_rfl) (by kernel_rfl) (by kernel_rfl) (fun _ _ _ h => h) (by rfl) (fun y hS => by go_simp) S0.out ?_
  simp only [Act.put, List.setIfInBounds_toArray, List.set_cons_zero, List.set_cons_succ]
  refine line_takeD 1 (some 30) (.slice (some ⟨g, 0, none⟩) n1 c1) rfl rfl (by kernel_rfl) (by kernel_rfl) (by kernel_rfl) (by kernel_rfl) (fun _ _ _ h => h) (by rfl) (fun y hS => by have kk := hS.1.at (i := 1) rfl; go_simp) S0.out ?_
  simp only [Act.put, List.setIfInBounds_toArray, List.set_cons_zero, List.set_cons_succ]
  refine line_takeD 2 (some 31) (.int .i64 k) rfl rfl (by kernel_rfl) (by kernel_rfl) (by kernel_rfl) (by kernel_rfl) (fun _ _ _ h => h) (by rfl) (fun y hS => by go_simp) S0.out ?_
  simp only [Act.put, List.setIfInBounds_toArray, List.set_cons_zero, List.set_cons_succ]
  refine line_takeD 3 (some 32) (.pointer (some ⟨tb, 0, none⟩)) rfl rfl (by kernel_rfl) (by kernel_rfl) (by kernel_rfl) (by kernel_rfl) (fun _ _ _ h => h) (by rfl) (fun y hS => by go_simp) S0.out ?_
  simp only [Act.put, List.setIfInBounds_toArray, List.set_cons_zero, List.set_cons_succ]
  refine line_callD 4 (some 33) (f := 139) (args := #[.pointer (some ⟨tb, 0, none⟩)]) rfl rfl (by kernel_rfl) (by rfl) (by go_simp) ?_
  refine (known_n tb u0 gate false D1 D2 D3 0 d1 0 d2 0 d3 0 sv w5.drew S0.out.2).mono ?_
  rintro e w6 ⟨rfl, b6⟩
  have b56 : Below w5.heap.size w5 w6 := bd.trans b6
  have S1 := Lib.hid (show Blk w6 w.heap.size [.slice X0 n0 c0, .slice (some ⟨g, 0, none⟩) n1 c1] ∧ Blk w6 tb [u0, .int .i64 4, .int .i64 1, .int .i64 9, .int .i64 gate, .bool false, .slice D1 0 d1, .int .i64 9, .int .i64 1, .int .i64 9, .slice D2 0 d2, .int .i64 9, .int .i64 1, .int .i64 9, .slice D3 0 d3, .int .i64 6, .int .i64 0, .int .i64 999, .int .i64 0, sv] from ⟨S0.out.1.keep b6, S0.out.2.keep b6⟩)
  refine ⟨_, rfl, fun _ => S1.out, ?_⟩
  simp only [Act.put, List.setIfInBounds_toArray, List.set_cons_zero, List.set_cons_succ]
  refine line_valD 5 (some 34) (.pointer (some ⟨g, k * 6, none⟩)) (w' := w6) rfl rfl (by kernel_rfl) (by rfl) (by go_simp) (fun _ => S1.out) ?_
  simp only [Act.put, List.setIfInBounds_toArray, List.set_cons_zero, List.set_cons_succ]
  have P16 := OwL.below EAspGate.framed EAspGate.inside P1.out b56
  have Th := OwL.there P16 hkl
  have EG : EAspGate w6 (f1 ++ f2 ++ f3) #[.int .i64 gate, .bool false, .slice D1 0 d1, .slice D2 0 d2, .slice D3 0 d3, .int .i64 0].toList (zeroG gate) := ⟨_, _, _, _, _, _, rfl, O1.out.below b56, O2.out.below b56, O3.out.below b56, rfl⟩
  have hnn : Nw w4.heap.size w5.heap.size (f1 ++ f2 ++ f3 ++ f4) := by have h := N5.out; simpa [List.append_assoc] using h
  obtain ⟨bs', hput, hnd', hsub, _⟩ := OwL.put EAspGate.framed EAspGate.inside P16 (List.nodup_append.1 NX.out.1).2.1 hkl (cs' := #[.int .i64 gate, .bool false, .slice D1 0 d1, .slice D2 0 d2, .slice D3 0 d3, .int .i64 0].toList) rfl EG (fun b hb hf => by have h1 := (hnn.left.2 b hb).1; have h2 := (NX.out.2 b (List.mem_append_right _ hf)).2; omega) hnn.left.1
  have fg := FrL.setCells (f := [g]) g (by simp) #[.int .i64 gate, .bool false, .slice D1 0 d1, .slice D2 0 d2, .slice D3 0 d3, .int .i64 0].toList (k * 6) w6 (FrL.refl _ _)
  have X7 := Lib.hid (show Blk (w6.setCells g (k * 6) #[.int .i64 gate, .bool false, .slice D1 0 d1, .slice D2 0 d2, .slice D3 0 d3, .int .i64 0].toList) w.heap.size [.slice X0 n0 c0, .slice (some ⟨g, 0, none⟩) n1 c1] from S1.out.1.frl fg (by simp; omega))
  have T7 := Lib.hid (show Blk (w6.setCells g (k * 6) #[.int .i64 gate, .bool false, .slice D1 0 d1, .slice D2 0 d2, .slice D3 0 d3, .int .i64 0].toList) tb [u0, .int .i64 4, .int .i64 1, .int .i64 9, .int .i64 gate, .bool false, .slice D1 0 d1, .int .i64 9, .int .i64 1, .int .i64 9, .slice D2 0 d2, .int .i64 9, .int .i64 1, .int .i64 9, .slice D3 0 d3, .int .i64 6, .int .i64 0, .int .i64 999, .int .i64 0, sv] from S1.out.2.frl fg (by simp; omega))
  have R7 := Lib.hid (show Blk (w6.setCells g (k * 6) #[.int .i64 gate, .bool false, .slice D1 0 d1, .slice D2 0 d2, .slice D3 0 d3, .int .i64 0].toList) (w.heap.size + 2) [.slice none 0 0, .slice none 0 0] from (R.out.keep b56).frl fg (by simp; omega))
  have P07 := Lib.hid ((P0.out.below b56).frl fg (fun b hb => by have h1 := (List.nodup_append.1 NX.out.1).2.2 b hb; simp only [List.mem_singleton]; rintro rfl; exact h1 _ hgm rfl))
  have O47 := Lib.hid (OwL.frl EMsgWord.framed EMsgWord.inside (OwL.below EMsgWord.framed EMsgWord.inside O4.out b56) fg (fun b hb => by have h1 := (hnn.right.2 b hb).1; simp; omega))
  have HP7 := Lib.hid hput
  have HB7 := Lib.hid ((HB.out.trans (b56.mono HB.out.size)).trans (fg.below (fun b hb => by simp at hb; omega) (Nat.le_trans HB.out.size b56.size)))
  have Z7 := Lib.hid (show w5.heap.size ≤ (w6.setCells g (k * 6) #[.int .i64 gate, .bool false, .slice D1 0 d1, .slice D2 0 d2, .slice D3 0 d3, .int .i64 0].toList).heap.size by rw [size_setCells]; exact b56.size)
  have hex : ∀ (a : Act) (o : Oper), o.op = .store 153 (.tmp 34) (.tmp 33) → a.eval (.tmp 34) = .pointer (some ⟨g, k * 6, none⟩) → a.eval (.tmp 33) = .agg #[.int .i64 gate, .bool false, .slice D1 0 d1, .slice D2 0 d2, .slice D3 0 d3, .int .i64 0] → (execOp a.eval o).run Try.prog w6 = .ok .skip (w6.setCells g (k * 6) #[.int .i64 gate, .bool false, .slice D1 0 d1, .slice D2 0 d2, .slice D3 0 d3, .int .i64 0].toList) := fun a o ho hx hy => exec_store_mid 153 (.tmp 34) (.tmp 33) ho #[.int .i64 gate, .bool false, .slice D1 0 d1, .slice D2 0 d2, .slice D3 0 d3, .int .i64 0] Th hx hy isz_AspGate (by kernel_rfl)
  have hg0 : ∀ b ∈ g0, b ∉ bs' := fun b hb hb' => by
    rcases hsub b hb' with h | h
    · exact (List.nodup_append.1 NX.out.1).2.2 b hb b h rfl
    · have h1 := (hnn.left.2 b h).1; have h2 := (NX.out.2 b (List.mem_append_left _ hb)).2; omega
  have hbs : ∀ b ∈ bs', w.heap.size + 3 ≤ b ∧ b < w5.heap.size ∧ b ∉ f4 := fun b hb => by
    rcases hsub b hb with h | h
    · have h1 := NX.out.2 b (List.mem_append_right _ h)
      exact ⟨h1.1, by omega, fun h4 => by have h5 := (hnn.right.2 b h4).1; omega⟩
    · have h1 := hnn.left.2 b h
      exact ⟨by omega, h1.2, fun h4 => hnn.apart b h h4⟩
  have NF := Lib.hid (show Nw (w.heap.size + 3) w5.heap.size (g0 ++ bs' ++ f4) from by
    refine ⟨List.nodup_append.2 ⟨List.nodup_append.2 ⟨(List.nodup_append.1 NX.out.1).1, hnd', fun a ha b hb he => hg0 a ha (he ▸ hb)⟩, hnn.right.1, fun a ha b hb he => ?_⟩, fun b hb => ?_⟩
    · subst he
      rcases List.mem_append.1 ha with h | h
      · have h1 := (NX.out.2 a (List.mem_append_left _ h)).2; have h2 := (hnn.right.2 a hb).1; omega
      · exact (hbs a h).2.2 hb
    · rcases List.mem_append.1 hb with h | h
      · rcases List.mem_append.1 h with h | h
        · have h1 := NX.out.2 b (List.mem_append_left _ h); omega
        · exact ⟨(hbs b h).1, (hbs b h).2.1⟩
      · have h1 := hnn.right.2 b h; omega)
  refine line_skipD 6 none (w' := w6.setCells g (k * 6) #[.int .i64 gate, .bool false, .slice D1 0 d1, .slice D2 0 d2, .slice D3 0 d3, .int .i64 0].toList) rfl rfl (by kernel_rfl) (by rfl) (by refine hex _ _ rfl ?_ ?_ <;> simp only [Act.eval] <;> rfl) (fun h => absurd rfl h) ?_
  try simp only [Act.put, List.setIfInBounds_toArray, List.set_cons_zero, List.set_cons_succ]
  refine line_done (by kernel_rfl) ?_ _
  clear S0 S1 P16 Th EG hput hnd' hsub fg hg0 hbs hnn b56 b6 bd hcap hgm hgb P0 P1 X T5 O1 O2 O3 O4 HB R N5
  generalize World.setCells w6 _ _ _ = w7 at *
  go_wp2_with fail
  try simp only [Act.put, List.setIfInBounds_toArray, List.set_cons_zero, List.set_cons_succ]
  have S0 := Lib.hid (show Blk w7.drew w.heap.size [.slice X0 n0 c0, .slice (some ⟨g, 0, none⟩) n1 c1] ∧ Blk w7.drew tb [u0, .int .i64 4, .int .i64 1, .int .i64 9, .int .i64 gate, .bool false, .slice D1 0 d1, .int .i64 9, .int .i64 1, .int .i64 9, .slice D2 0 d2, .int .i64 9, .int .i64 1, .int .i64 9, .slice D3 0 d3, .int .i64 6, .int .i64 0, .int .i64 999, .int .i64 0, sv] from ⟨X7.out.drew, T7.out.drew⟩)
  have R8 := Lib.hid R7.out.drew
  have fr := Lib.hid (FrL.setCells (f := [w.heap.size + 2]) (w.heap.size + 2) (by simp) [.slice X0 n0 c0, .slice (some ⟨g, 0, none⟩) n1 c1] 0 w7.drew (FrL.refl _ _))
  have S1 := Lib.hid (show Blk (w7.drew.setCells (w.heap.size + 2) 0 [.slice X0 n0 c0, .slice (some ⟨g, 0, none⟩) n1 c1]) w.heap.size [.slice X0 n0 c0, .slice (some ⟨g, 0, none⟩) n1 c1] ∧ Blk (w7.drew.setCells (w.heap.size + 2) 0 [.slice X0 n0 c0, .slice (some ⟨g, 0, none⟩) n1 c1]) tb [u0, .int .i64 4, .int .i64 1, .int .i64 9, .int .i64 gate, .bool false, .slice D1 0 d1, .int .i64 9, .int .i64 1, .int .i64 9, .slice D2 0 d2, .int .i64 9, .int .i64 1, .int .i64 9, .slice D3 0 d3, .int .i64 6, .int .i64 0, .int .i64 999, .int .i64 0, sv] from ⟨S0.out.1.frl fr.out (by simp), S0.out.2.frl fr.out (by simp; omega)⟩)
  have R9 := Lib.hid (R8.out.whole (cs := [.slice X0 n0 c0, .slice (some ⟨g, 0, none⟩) n1 c1]) rfl)
  refine wp_region_line (fun y => Blk y w.heap.size [.slice X0 n0 c0, .slice (some ⟨g, 0, none⟩) n1 c1] ∧ Blk y tb [u0, .int .i64 4, .int .i64 1, .int .i64 9, .int .i64 gate, .bool false, .slice D1 0 d1, .int .i64 9, .int .i64 1, .int .i64 9, .slice D2 0 d2, .int .i64 9, .int .i64 1, .int .i64 9, .slice D3 0 d3, .int .i64 6, .int .i64 0, .int .i64 999, .int .i64 0, sv]) 6 (by kernel_rfl) ?_
  refine line_takeD 0 (some 35) (.agg #[.slice X0 n0 c0, .slice (some ⟨g, 0, none⟩) n1 c1]) rfl rfl (by kernel_rfl) (by kernel_rfl) (by kernel_rfl) (by kernel_rfl) (fun _ _ _ h => h) (by rfl) (fun y hS => exec_load_blk 38 (.tmp 3) rfl hS.1 rfl _ Try.underlying38 rfl isz_AspBook) S0.out ?_
  simp only [Act.put, List.setIfInBounds_toArray, List.set_cons_zero, List.set_cons_succ]
  refine line_takeD 1 (some 36) (.pointer (some ⟨tb, 0, none⟩)) rfl rfl (by kernel_rfl) (by kernel_rfl) (by kernel_rfl) (by kernel_rfl) (fun _ _ _ h => h) (by rfl) (fun y hS => by go_simp) S0.out ?_
  simp only [Act.put, List.setIfInBounds_toArray, List.set_cons_zero, List.set_cons_succ]
  refine line_takeD 2 (some 37) (.pointer (some ⟨tb, 0, none⟩)) rfl rfl (by kernel_rfl) (by kernel_rfl) (by kernel_rfl) (by kernel_rfl) (fun _ _ _ h => h) (by rfl) (fun y hS => by go_simp) S0.out ?_
  simp only [Act.put, List.setIfInBounds_toArray, List.set_cons_zero, List.set_cons_succ]
  refine line_takeD 3 (some 38) (.pointer (some ⟨tb, 19, none⟩)) rfl rfl (by kernel_rfl) (by kernel_rfl) (by kernel_rfl) (by kernel_rfl) (fun _ _ _ h => h) (by rfl) (fun y hS => by go_simp) S0.out ?_
  simp only [Act.put, List.setIfInBounds_toArray, List.set_cons_zero, List.set_cons_succ]
  refine line_takeD 4 (some 39) (sv) rfl rfl (by kernel_rfl) (by kernel_rfl) (by kernel_rfl) (by kernel_rfl) (fun _ _ _ h => h) (by rfl) (fun y hS => by have kk := hS.2.at (i := 19) rfl; go_simp) S0.out ?_
  simp only [Act.put, List.setIfInBounds_toArray, List.set_cons_zero, List.set_cons_succ]
  refine line_skipD 5 none (w' := w7.drew.setCells (w.heap.size + 2) 0 [.slice X0 n0 c0, .slice (some ⟨g, 0, none⟩) n1 c1]) rfl rfl (by kernel_rfl) (by rfl) (exec_store_blk 38 (.tmp 6) (.tmp 35) rfl R8.out #[.slice X0 n0 c0, .slice (some ⟨g, 0, none⟩) n1 c1] rfl rfl rfl isz_AspBook (by kernel_rfl)) (fun _ => S1.out) ?_
  simp only [Act.put, List.setIfInBounds_toArray, List.set_cons_zero, List.set_cons_succ]
  refine line_valD 6 (some 7) sv (w' := w7.drew.setCells (w.heap.size + 2) 0 [.slice X0 n0 c0, .slice (some ⟨g, 0, none⟩) n1 c1]) rfl rfl (by kernel_rfl) (by rfl) (by go_simp) (fun _ => S1.out) ?_
  simp only [Act.put, List.setIfInBounds_toArray, List.set_cons_zero, List.set_cons_succ]
  refine line_done (by kernel_rfl) ?_ _
  have P09 := Lib.hid ((P07.out.below (Below.refl _ _).drew).frl fr.out (fun b hb => by have h1 := (NF.out.2 b (by simp [hb])).1; simp; omega))
  have HP9 := Lib.hid (OwL.frl EAspGate.framed EAspGate.inside (OwL.below EAspGate.framed EAspGate.inside HP7.out (Below.refl _ _).drew) fr.out (fun b hb => by have h1 := (NF.out.2 b (by simp [hb])).1; simp; omega))
  have O49 := Lib.hid (OwL.frl EMsgWord.framed EMsgWord.inside (OwL.below EMsgWord.framed EMsgWord.inside O47.out (Below.refl _ _).drew) fr.out (fun b hb => by have h1 := (NF.out.2 b (by simp [hb])).1; simp; omega))
  have HB9 := Lib.hid (HB7.out.drew.trans (fr.out.below (fun b hb => by simp at hb; omega) HB7.out.drew.size))
  have Z9 := Lib.hid (show w5.heap.size ≤ (w7.drew.setCells (w.heap.size + 2) 0 [.slice X0 n0 c0, .slice (some ⟨g, 0, none⟩) n1 c1]).heap.size from Nat.le_trans Z7.out fr.out.size)
  clear S0 S1 R8 fr
  generalize World.setCells w7.drew _ _ _ = w9 at *
  go_wp2
  refine bodyPost_ret (v := .tuple #[.agg #[.slice X0 n0 c0, .slice (some ⟨g, 0, none⟩) n1 c1], sv]) (results_row2 rfl rfl rfl (load_blk 38 R9.out _ Try.underlying38 rfl isz_AspBook)) rfl ?_
  exact ⟨_, sv, g0 ++ bs', f4, rfl, by rw [HE.out]; exact ⟨_, _, _, _, rfl, P09.out, HP9.out, rfl⟩, by rw [HS.out]; exact O49.out, NF.out.mono (by omega) Z9.out, HB9.out⟩

end Go.Proofs.Ythdjjgbjemaabaa
