/-
  A cookie is tasted: the program's contract. (Written by wip/tools/gentaste.py.)
-/
import Derived.Test.YtbceikhmoblacaaTasteS
namespace Go.Proofs.Ytbceikhmoblacaa
open Go.ChangeShapes Go.WideShapes Go.ChangeAt Go.RowKit
set_option linter.unusedVariables false
set_option linter.unusedSimpArgs false

structure FRd (w : World) (g : Nat) (v : Value) (a : Nat) (bad : Bool) : Prop where
  cur : Cur w g v a
  c2 : w.cell? ⟨g, 2, none⟩ = some (.bool bad)
theorem FRd.set1 {w : World} {g a a' : Nat} {v : Value} {bad : Bool} (h : FRd w g v a bad) : FRd (w.setCell ⟨g, 1, none⟩ (.int .i64 (a' : Nat))) g v a' bad :=
  ⟨⟨(World.cell?_setCell_other _ _ _ _ (by simp)).trans h.cur.c0, World.cell?_setCell_same _ _ _ h.cur.c1, fun j => by rw [World.frozen?_setCell]; exact h.cur.fz j⟩, (World.cell?_setCell_other _ _ _ _ (by simp)).trans h.c2⟩
theorem FRd.set2 {w : World} {g a : Nat} {v : Value} {bad b : Bool} (h : FRd w g v a bad) : FRd (w.setCell ⟨g, 2, none⟩ (.bool b)) g v a b :=
  ⟨⟨(World.cell?_setCell_other _ _ _ _ (by simp)).trans h.cur.c0, (World.cell?_setCell_other _ _ _ _ (by simp)).trans h.cur.c1, fun j => by rw [World.frozen?_setCell]; exact h.cur.fz j⟩, World.cell?_setCell_same _ _ _ h.c2⟩
theorem FRd.drewN {w : World} {g a : Nat} {v : Value} {bad : Bool} (h : FRd w g v a bad) (n : Nat) : FRd (w.drewN n) g v a bad := ⟨⟨h.cur.c0, h.cur.c1, h.cur.fz⟩, h.c2⟩
theorem FRd.keep {w w' : World} {g a : Nat} {v : Value} {bad : Bool} (h : FRd w g v a bad) (hb : Below w.heap.size w w') : FRd w' g v a bad := by
  have hg : g < w.heap.size := World.block_lt_of_cell? w _ h.cur.c0
  exact ⟨⟨(hb.cell (p := ⟨g, 0, none⟩) hg).trans h.cur.c0, (hb.cell (p := ⟨g, 1, none⟩) hg).trans h.cur.c1, fun j => (hb.frozen (p := ⟨g, j, none⟩) hg).trans (h.cur.fz j)⟩, (hb.cell (p := ⟨g, 2, none⟩) hg).trans h.c2⟩
theorem RdB.setBool {w : World} {v : Value} {xs : List UInt8} (h : RdB w v xs) {p : Addr} {q : Bool} (hp : w.cell? p = some (.bool q)) (u : Value) : RdB (w.setCell p u) v xs := by
  obtain ⟨A, c, rfl, h1, hc⟩ := h
  refine ⟨A, c, rfl, h1, fun j x hx => ?_⟩
  obtain ⟨ad, rfl, hcell⟩ := hc j x hx
  refine ⟨ad, rfl, ?_⟩
  rw [World.cell?_setCell_other _ _ _ _ (fun e => by rw [← e, hp] at hcell; simp [byt] at hcell)]
  exact hcell
theorem Fr.set' {w : World} {g o : Nat} (u : Value) : Fr g (g + 1) w (w.setCell ⟨g, o, none⟩ u) :=
  ⟨rfl, rfl, rfl, by simp [World.setCell], fun k _ ho => Below.heap_setCell _ _ _ _ (by simp; omega)⟩
theorem Blk.frg {w w' : World} {b g : Nat} {vs : List Value} (h : Blk w b vs) (hf : Fr g (g + 1) w w') (hb : b ≠ g) : Blk w' b vs :=
  ⟨Nat.lt_of_lt_of_le h.lt hf.size, fun i => (World.cell?_of_block (a := ⟨b, i, none⟩) (hf.block b h.lt (by omega))).trans (h.cell i), fun o => (World.frozen?_of_block (a := ⟨b, o, none⟩) (hf.block b h.lt (by omega))).trans (h.frozen o)⟩
set_option maxHeartbeats 1000000 in
theorem next_yes (g a : Nat) (v : Value) (xs : List UInt8) (bad : Bool) (w : World) (hf : FRd w g v a bad) (hv : RdB w v xs) (hn : xs.length ≤ 4294967296) (hyes : a + 4 ≤ xs.length) :
    Calls Try.prog 176 #[.pointer (some ⟨g, 0, none⟩), .int .i64 4] w fun e w' => e = .returned (.int .i64 (getN xs a 4)) ∧ FRd w' g v (a + 4) bad ∧ RdB w' v xs ∧ Fr g (g + 1) w w' := by
  have hgb : getB xs.length a 4 = true := getB_iff.2 ⟨by decide, by omega, by omega⟩
  have Hg := Lib.hid (show getN xs a 4 = val ((xs.drop a).take (4 : Int).toNat) by rw [getN_yes hgb]; simp)
  have HF := Lib.hid hf
  have HV := Lib.hid hv
  go_enter Try.func176, Try.ntmps176
  go_wp2_with fail
  refine (number_yes g a 4 v xs _ hf.cur hv hn hgb).mono ?_
  rintro e w' ⟨rfl, d, hw⟩
  have HW := Lib.hid hw
  clear hf hv hgb hw
  go_wp2
  go_ret
  refine ⟨retI Hg.out.symm, ?_, ?_, ?_⟩
  · rw [HW.out]; exact HF.out.set1.drewN d
  · rw [HW.out]; exact (HV.out.setInt HF.out.cur.c1 _).drewN d
  · rw [HW.out]; exact (Fr.set' _).drewN d
set_option maxHeartbeats 1000000 in
theorem next_no (g a : Nat) (v : Value) (xs : List UInt8) (bad : Bool) (w : World) (hf : FRd w g v a bad) (hv : RdB w v xs) (hn : xs.length ≤ 4294967296) (ha : a ≤ 4294967296) (hno : xs.length < a + 4) :
    Calls Try.prog 176 #[.pointer (some ⟨g, 0, none⟩), .int .i64 4] w fun e w' => e = .returned (.int .i64 0) ∧ FRd w' g v a true ∧ RdB w' v xs ∧ Fr g (g + 1) w w' := by
  have hgb : getB xs.length a 4 = false := by
    cases h : getB xs.length a 4 with
    | false => rfl
    | true => have := getB_iff.1 h; omega
  have HF := Lib.hid hf
  have HV := Lib.hid hv
  go_enter Try.func176, Try.ntmps176
  go_wp2_with fail
  refine (number_no g a 4 v xs _ hf.cur hv hn (by omega) hgb).mono ?_
  rintro e w' ⟨rfl, d, hw⟩
  subst hw
  have c2 : (w.drewN d).cell? ⟨g, 2, none⟩ = some (.bool bad) := HF.out.c2
  have z2 : (w.drewN d).frozen? ⟨g, 2, none⟩ = false := HF.out.cur.fz 2
  clear hf hv hgb
  generalize hw1 : w.drewN d = w1 at *
  have HW := Lib.hid hw1
  clear hw1
  go_wp2
  go_ret
  refine ⟨rfl, ?_, ?_, ?_⟩
  · rw [← HW.out]; exact (HF.out.drewN d).set2
  · rw [← HW.out]; exact RdB.setBool (HV.out.drewN d) (HF.out.drewN d).c2 _
  · rw [← HW.out]; exact ((Fr.refl g (g + 1) w).drewN d).trans (Fr.set' _)
def FRx (w : World) (g : Nat) (v : Value) (k : Nat) : Prop := ∃ a bad, FRd w g v a bad ∧ (bad = true ∨ a = 4 * k) ∧ a ≤ 4 * k
theorem next_x (g k : Nat) (v : Value) (xs : List UInt8) (w : World) (hf : FRx w g v k) (hv : RdB w v xs) (hn : xs.length ≤ 4294967296) (hk : k ≤ 100) :
    Calls Try.prog 176 #[.pointer (some ⟨g, 0, none⟩), .int .i64 4] w fun e w' => ∃ z : Int, e = .returned (.int .i64 z) ∧ FRx w' g v (k + 1) ∧ RdB w' v xs ∧ Fr g (g + 1) w w' := by
  obtain ⟨a, bad, h1, h2, h3⟩ := hf
  by_cases hy : a + 4 ≤ xs.length
  · exact (next_yes g a v xs bad w h1 hv hn hy).mono fun e w' ⟨he, h4, h5, h6⟩ => ⟨_, he, ⟨a + 4, bad, h4, h2.imp id (fun h => by omega), by omega⟩, h5, h6⟩
  · exact (next_no g a v xs bad w h1 hv hn (by omega) (by omega)).mono fun e w' ⟨he, h4, h5, h6⟩ => ⟨_, he, ⟨a, true, h4, .inl rfl, by omega⟩, h5, h6⟩
set_option maxHeartbeats 1000000 in
theorem done_any (g a : Nat) (v : Value) (xs : List UInt8) (bad : Bool) (w : World) (hf : FRd w g v a bad) (hv : RdB w v xs) (hn : xs.length ≤ 4294967296) :
    Calls Try.prog 177 #[.pointer (some ⟨g, 0, none⟩)] w fun e w' => e = .returned (.bool (!bad && decide (a = xs.length))) ∧ Below w.heap.size w w' := by
  obtain ⟨A, c, rfl⟩ := hv.slice
  have c0 := hf.cur.c0
  have c1 := hf.cur.c1
  have c2 := hf.c2
  clear hf hv
  generalize xs.length = n at *
  cases bad
  · by_cases he : a = n
    · subst he
      go_enter Try.func177, Try.ntmps177
      go_wp2_with fail
      go_quiet (fail)
      go_wp2
      go_ret
      exact ⟨ret_bool (by simp), below_drewN (Below.refl _ _) _⟩
    · have hb : ((a : Int) == (n : Int)) = false := by rw [beq_eq_false_iff_ne]; omega
      have hd := Lib.hid (show (!false && decide (a = n)) = false by simp [he])
      clear he
      go_enter Try.func177, Try.ntmps177
      go_wp2_with fail
      go_quiet (fail)
      go_wp2
      go_ret
      exact ⟨ret_bool hd.out.symm, below_drewN (Below.refl _ _) _⟩
  · go_enter Try.func177, Try.ntmps177
    go_wp2_with fail
    go_quiet (fail)
    go_wp2
    go_ret
    exact ⟨ret_bool (by simp), below_drewN (Below.refl _ _) _⟩
theorem frInfo : (Try.prog.info? 220).map (·.size) = some 3 := by kernel_rfl
set_option maxRecDepth 100000 in
set_option maxHeartbeats 4000000 in
theorem ascRead_yes (v : Value) (xs : List UInt8) (w : World) (hv : RdB w v xs) (hl : xs.length = 44) : Calls Try.prog 113 #[v] w fun e w' => e = .returned (.tuple #[.agg #[.int .i64 (cookieF xs).xMe, .int .i64 (cookieF xs).xPeer, .int .i64 (cookieF xs).xTag, .int .i64 (cookieF xs).xPeerTag, .int .i64 (cookieF xs).xTsn, .int .i64 (cookieF xs).xPeerTsn, .int .i64 (cookieF xs).xStreams, .int .i64 (cookieF xs).xMade, .int .i64 (cookieF xs).xOldTag, .int .i64 (cookieF xs).xOldPeerTag, .int .i64 (cookieF xs).xMac], .bool true]) ∧ Below w.heap.size w w' := by
  have HI := Lib.hid cookieInfo
  have HI2 := Lib.hid frInfo
  have Hl := Lib.hid hl
  have Hn := Lib.hid (show xs.length ≤ 1048576 by omega)
  clear hl 
  obtain ⟨A, c, rfl⟩ := id hv.slice
  have hcap := hv.cap
  have HVV := Lib.hid hv
  have R := Lib.hid (Blk.new (w := w) (b := w.heap.size) #[.int .i64 0, .int .i64 0, .int .i64 0, .int .i64 0, .int .i64 0, .int .i64 0, .int .i64 0, .int .i64 0, .int .i64 0, .int .i64 0, .int .i64 0] 49 rfl)
  have HB := Lib.hid ((Below.refl w.heap.size w).alloc (Nat.le_refl _) (.cells #[.int .i64 0, .int .i64 0, .int .i64 0, .int .i64 0, .int .i64 0, .int .i64 0, .int .i64 0, .int .i64 0, .int .i64 0, .int .i64 0, .int .i64 0] 49))
  clear hv
  generalize hn0 : xs.length = n at *
  have Hn0 := Lib.hid hn0
  clear hn0
  go_enter Try.func113, Try.ntmps113
  go_wp2_with (refine wpList_store_new _ rfl 220 (.tmp 4) (.tmp 8) rfl rfl rfl HI2.out rfl (by rfl) ?_)
  have KF := Lib.hid (Blk.new (w := w.alloc (.cells #[.int .i64 0, .int .i64 0, .int .i64 0, .int .i64 0, .int .i64 0, .int .i64 0, .int .i64 0, .int .i64 0, .int .i64 0, .int .i64 0, .int .i64 0] 49)) (b := w.heap.size + 1) #[.slice A n c, .int .i64 0, .bool false] 220 (by simp))
  replace R := Lib.hid (R.out.alloc (.cells #[.slice A n c, .int .i64 0, .bool false] 220))
  replace HB := Lib.hid (HB.out.alloc HB.out.size (.cells #[.slice A n c, .int .i64 0, .bool false] 220))
  generalize hw2 : World.alloc (World.alloc w _) _ = w0 at *
  clear hw2
  generalize hg : w.heap.size + 1 = g at *
  have Hg := Lib.hid hg
  clear hg
  have F := Lib.hid (show FRd w0 g (.slice A n c) 0 false from ⟨⟨KF.out.at (i := 0) rfl, KF.out.at (i := 1) rfl, KF.out.frozen⟩, KF.out.at (i := 2) rfl⟩)
  have HV := Lib.hid (show RdB w0 (.slice A n c) xs from HVV.out.below (by exact HB.out))
  have HG := Lib.hid (Fr.refl g (g + 1) w0)
  clear KF HVV HI2
  refine (next_yes g 0 _ xs false _ F.out HV.out (by have := Hn0.out; have := Hn.out; omega) (by have := Hn0.out; have := Hl.out; omega)).mono ?_
  rintro e wa0 ⟨rfl, f, h, k⟩
  replace F := Lib.hid f
  replace HV := Lib.hid h
  replace HG := Lib.hid (HG.out.trans k)
  clear f h k
  generalize hz0 : getN xs (0 : Nat) 4 = z0 at *
  have Z0 := Lib.hid hz0
  clear hz0
  go_wp2_with fail
  refine (next_yes g 4 _ xs false _ F.out HV.out (by have := Hn0.out; have := Hn.out; omega) (by have := Hn0.out; have := Hl.out; omega)).mono ?_
  rintro e wa1 ⟨rfl, f, h, k⟩
  replace F := Lib.hid f
  replace HV := Lib.hid h
  replace HG := Lib.hid (HG.out.trans k)
  clear f h k
  generalize hz1 : getN xs (4 : Nat) 4 = z1 at *
  have Z1 := Lib.hid hz1
  clear hz1
  go_wp2_with fail
  refine (next_yes g 8 _ xs false _ F.out HV.out (by have := Hn0.out; have := Hn.out; omega) (by have := Hn0.out; have := Hl.out; omega)).mono ?_
  rintro e wa2 ⟨rfl, f, h, k⟩
  replace F := Lib.hid f
  replace HV := Lib.hid h
  replace HG := Lib.hid (HG.out.trans k)
  clear f h k
  generalize hz2 : getN xs (8 : Nat) 4 = z2 at *
  have Z2 := Lib.hid hz2
  clear hz2
  go_wp2_with fail
  refine (next_yes g 12 _ xs false _ F.out HV.out (by have := Hn0.out; have := Hn.out; omega) (by have := Hn0.out; have := Hl.out; omega)).mono ?_
  rintro e wa3 ⟨rfl, f, h, k⟩
  replace F := Lib.hid f
  replace HV := Lib.hid h
  replace HG := Lib.hid (HG.out.trans k)
  clear f h k
  generalize hz3 : getN xs (12 : Nat) 4 = z3 at *
  have Z3 := Lib.hid hz3
  clear hz3
  go_wp2_with fail
  refine (next_yes g 16 _ xs false _ F.out HV.out (by have := Hn0.out; have := Hn.out; omega) (by have := Hn0.out; have := Hl.out; omega)).mono ?_
  rintro e wa4 ⟨rfl, f, h, k⟩
  replace F := Lib.hid f
  replace HV := Lib.hid h
  replace HG := Lib.hid (HG.out.trans k)
  clear f h k
  generalize hz4 : getN xs (16 : Nat) 4 = z4 at *
  have Z4 := Lib.hid hz4
  clear hz4
  go_wp2_with fail
  refine (next_yes g 20 _ xs false _ F.out HV.out (by have := Hn0.out; have := Hn.out; omega) (by have := Hn0.out; have := Hl.out; omega)).mono ?_
  rintro e wa5 ⟨rfl, f, h, k⟩
  replace F := Lib.hid f
  replace HV := Lib.hid h
  replace HG := Lib.hid (HG.out.trans k)
  clear f h k
  generalize hz5 : getN xs (20 : Nat) 4 = z5 at *
  have Z5 := Lib.hid hz5
  clear hz5
  go_wp2_with fail
  refine (next_yes g 24 _ xs false _ F.out HV.out (by have := Hn0.out; have := Hn.out; omega) (by have := Hn0.out; have := Hl.out; omega)).mono ?_
  rintro e wa6 ⟨rfl, f, h, k⟩
  replace F := Lib.hid f
  replace HV := Lib.hid h
  replace HG := Lib.hid (HG.out.trans k)
  clear f h k
  generalize hz6 : getN xs (24 : Nat) 4 = z6 at *
  have Z6 := Lib.hid hz6
  clear hz6
  go_wp2_with fail
  refine (next_yes g 28 _ xs false _ F.out HV.out (by have := Hn0.out; have := Hn.out; omega) (by have := Hn0.out; have := Hl.out; omega)).mono ?_
  rintro e wa7 ⟨rfl, f, h, k⟩
  replace F := Lib.hid f
  replace HV := Lib.hid h
  replace HG := Lib.hid (HG.out.trans k)
  clear f h k
  generalize hz7 : getN xs (28 : Nat) 4 = z7 at *
  have Z7 := Lib.hid hz7
  clear hz7
  go_wp2_with fail
  refine (next_yes g 32 _ xs false _ F.out HV.out (by have := Hn0.out; have := Hn.out; omega) (by have := Hn0.out; have := Hl.out; omega)).mono ?_
  rintro e wa8 ⟨rfl, f, h, k⟩
  replace F := Lib.hid f
  replace HV := Lib.hid h
  replace HG := Lib.hid (HG.out.trans k)
  clear f h k
  generalize hz8 : getN xs (32 : Nat) 4 = z8 at *
  have Z8 := Lib.hid hz8
  clear hz8
  go_wp2_with fail
  refine (next_yes g 36 _ xs false _ F.out HV.out (by have := Hn0.out; have := Hn.out; omega) (by have := Hn0.out; have := Hl.out; omega)).mono ?_
  rintro e wa9 ⟨rfl, f, h, k⟩
  replace F := Lib.hid f
  replace HV := Lib.hid h
  replace HG := Lib.hid (HG.out.trans k)
  clear f h k
  generalize hz9 : getN xs (36 : Nat) 4 = z9 at *
  have Z9 := Lib.hid hz9
  clear hz9
  go_wp2_with fail
  refine (next_yes g 40 _ xs false _ F.out HV.out (by have := Hn0.out; have := Hn.out; omega) (by have := Hn0.out; have := Hl.out; omega)).mono ?_
  rintro e wa10 ⟨rfl, f, h, k⟩
  replace F := Lib.hid f
  replace HV := Lib.hid h
  replace HG := Lib.hid (HG.out.trans k)
  clear f h k
  generalize hz10 : getN xs (40 : Nat) 4 = z10 at *
  have Z10 := Lib.hid hz10
  clear hz10
  replace R := Lib.hid (R.out.frg HG.out (by have := Hg.out; omega))
  replace HB := Lib.hid (HB.out.trans (HG.out.below (by have := Hg.out; omega) HB.out.size))
  have K := Lib.hid (Blk.new (w := wa10) (b := wa10.heap.size) #[.int .i64 z0, .int .i64 z1, .int .i64 z2, .int .i64 z3, .int .i64 z4, .int .i64 z5, .int .i64 z6, .int .i64 z7, .int .i64 z8, .int .i64 z9, .int .i64 z10] 49 rfl)
  replace F := Lib.hid (F.out.keep ((Below.refl _ _).alloc (Nat.le_refl _) (.cells #[.int .i64 z0, .int .i64 z1, .int .i64 z2, .int .i64 z3, .int .i64 z4, .int .i64 z5, .int .i64 z6, .int .i64 z7, .int .i64 z8, .int .i64 z9, .int .i64 z10] 49)))
  replace R := Lib.hid (R.out.alloc (.cells #[.int .i64 z0, .int .i64 z1, .int .i64 z2, .int .i64 z3, .int .i64 z4, .int .i64 z5, .int .i64 z6, .int .i64 z7, .int .i64 z8, .int .i64 z9, .int .i64 z10] 49))
  replace HB := Lib.hid (HB.out.alloc HB.out.size (.cells #[.int .i64 z0, .int .i64 z1, .int .i64 z2, .int .i64 z3, .int .i64 z4, .int .i64 z5, .int .i64 z6, .int .i64 z7, .int .i64 z8, .int .i64 z9, .int .i64 z10] 49))
  replace HV := Lib.hid (HV.out.below ((Below.refl _ _).alloc (Nat.le_refl _) (.cells #[.int .i64 z0, .int .i64 z1, .int .i64 z2, .int .i64 z3, .int .i64 z4, .int .i64 z5, .int .i64 z6, .int .i64 z7, .int .i64 z8, .int .i64 z9, .int .i64 z10] 49)))
  have HD := Lib.hid (show (!false && decide (44 = xs.length)) = true by have h1 := Hn0.out; have h2 := Hl.out; rw [decide_eq_true (by omega)]; rfl)
  go_wp2_with (refine wpList_store_new _ rfl 49 (.tmp 5) (.tmp 20) rfl rfl rfl HI.out rfl (by rfl) ?_)
  generalize hcb : wa10.heap.size = cb at *
  generalize hw3 : World.alloc wa10 _ = w3 at *
  have Hcb := Lib.hid hcb
  clear hw3 hcb HI
  refine wp_region_free 2 (fun y => Below w3.heap.size w3 y) (fun vals i v y f => match i with | 0 => v = .agg #[.int .i64 z0, .int .i64 z1, .int .i64 z2, .int .i64 z3, .int .i64 z4, .int .i64 z5, .int .i64 z6, .int .i64 z7, .int .i64 z8, .int .i64 z9, .int .i64 z10] ∧ f = [] | 1 => v = .bool true ∧ f = [] | _ => False) (fun i => i) (by kernel_rfl) (by kernel_rfl) (fun _ i v y y' f h hb => by match i, h with | 0, h => exact h | 1, h => exact h) (fun _ _ _ _ _ _ _ _ _ h => h) (Below.refl _ _).drew ?_ ?_
  · intro vals
    simp only [List.take_succ_cons, List.take_zero, Steps]
    refine ⟨?_, ?_, trivial⟩
    · intro y fp0 hS hd
      try simp only [Act.put, List.setIfInBounds_toArray, List.set_cons_zero, List.set_cons_succ]
      have k0 := (K.out.keep hS).at (i := 0) rfl; have k1 := (K.out.keep hS).at (i := 1) rfl; have k2 := (K.out.keep hS).at (i := 2) rfl; have k3 := (K.out.keep hS).at (i := 3) rfl; have k4 := (K.out.keep hS).at (i := 4) rfl; have k5 := (K.out.keep hS).at (i := 5) rfl; have k6 := (K.out.keep hS).at (i := 6) rfl; have k7 := (K.out.keep hS).at (i := 7) rfl; have k8 := (K.out.keep hS).at (i := 8) rfl; have k9 := (K.out.keep hS).at (i := 9) rfl; have k10 := (K.out.keep hS).at (i := 10) rfl
      refine FreeUpon.pure (.agg #[.int .i64 z0, .int .i64 z1, .int .i64 z2, .int .i64 z3, .int .i64 z4, .int .i64 z5, .int .i64 z6, .int .i64 z7, .int .i64 z8, .int .i64 z9, .int .i64 z10]) ?_ ⟨rfl, rfl⟩ hS
      clear hS hd
      go_simp
    · intro y fp0 hS hd
      try simp only [Act.put, List.setIfInBounds_toArray, List.set_cons_zero, List.set_cons_succ]
      refine FreeUpon.call (g := 177) (args := #[.pointer (some ⟨g, 0, none⟩)]) ?_ ((done_any g 44 _ xs false y (F.out.keep hS) (HV.out.below hS) (by have := Hn0.out; have := Hn.out; omega)).mono fun e y' ⟨he, h3⟩ => ⟨_, [], he, ⟨by rw [HD.out], rfl⟩, Nw.nil _ _, h3, hS.trans (h3.mono hS.size)⟩)
      go_simp
  · intro vals fp y hS hb hf
    have e0 : vals 0 = .agg #[.int .i64 z0, .int .i64 z1, .int .i64 z2, .int .i64 z3, .int .i64 z4, .int .i64 z5, .int .i64 z6, .int .i64 z7, .int .i64 z8, .int .i64 z9, .int .i64 z10] := (hf.1 0 (by omega) rfl).1.1
    have e1 : vals 1 = .bool true := (hf.1 1 (by omega) rfl).1.1
    replace R := Lib.hid (R.out.keep hS)
    replace HB := Lib.hid (HB.out.trans (hS.mono HB.out.size))
    clear hf hS hb
    simp only [List.take_succ_cons, List.take_zero, List.drop_succ_cons, List.drop_zero, putAll, Act.put, List.setIfInBounds_toArray, List.set_cons_zero, List.set_cons_succ, e0, e1]
    clear e0 e1
    have rk0 := R.out.at (i := 0) rfl
    have rz0 := R.out.frozen 0
    have rk1 := R.out.at (i := 1) rfl
    have rz1 := R.out.frozen 1
    have rk2 := R.out.at (i := 2) rfl
    have rz2 := R.out.frozen 2
    have rk3 := R.out.at (i := 3) rfl
    have rz3 := R.out.frozen 3
    have rk4 := R.out.at (i := 4) rfl
    have rz4 := R.out.frozen 4
    have rk5 := R.out.at (i := 5) rfl
    have rz5 := R.out.frozen 5
    have rk6 := R.out.at (i := 6) rfl
    have rz6 := R.out.frozen 6
    have rk7 := R.out.at (i := 7) rfl
    have rz7 := R.out.frozen 7
    have rk8 := R.out.at (i := 8) rfl
    have rz8 := R.out.frozen 8
    have rk9 := R.out.at (i := 9) rfl
    have rz9 := R.out.frozen 9
    have rk10 := R.out.at (i := 10) rfl
    have rz10 := R.out.frozen 10
    go_wp2
    refine bodyPost_ret (v := .tuple #[.agg #[.int .i64 z0, .int .i64 z1, .int .i64 z2, .int .i64 z3, .int .i64 z4, .int .i64 z5, .int .i64 z6, .int .i64 z7, .int .i64 z8, .int .i64 z9, .int .i64 z10], .bool true]) (by simp [results, Try.results113, go_sem, rk0, rk1, rk2, rk3, rk4, rk5, rk6, rk7, rk8, rk9, rk10]) rfl ⟨by unfold cookieF; rw [← Z0.out, ← Z1.out, ← Z2.out, ← Z3.out, ← Z4.out, ← Z5.out, ← Z6.out, ← Z7.out, ← Z8.out, ← Z9.out, ← Z10.out]; rfl, ?_⟩
    have hbb := HB.out
    (repeat first | with_reducible exact Below.refl _ _ | with_reducible assumption | with_reducible refine Below.setCell ?_ (by first | exact Nat.le_refl _ | (simp; done) | (simp; omega) | omega) _ | with_reducible refine Below.alloc ?_ (by first | exact Nat.le_refl _ | (simp; done) | (simp; omega) | omega) _ | with_reducible refine Below.drew ?_)
set_option maxRecDepth 100000 in
set_option maxHeartbeats 4000000 in
theorem ascRead_no (v : Value) (xs : List UInt8) (w : World) (hv : RdB w v xs) (hl : xs.length ≠ 44) (hn : xs.length ≤ 1048576) : Calls Try.prog 113 #[v] w fun e w' => ∃ C : DAscCookie, e = .returned (.tuple #[.agg #[.int .i64 C.xMe, .int .i64 C.xPeer, .int .i64 C.xTag, .int .i64 C.xPeerTag, .int .i64 C.xTsn, .int .i64 C.xPeerTsn, .int .i64 C.xStreams, .int .i64 C.xMade, .int .i64 C.xOldTag, .int .i64 C.xOldPeerTag, .int .i64 C.xMac], .bool false]) ∧ Below w.heap.size w w' := by
  have HI := Lib.hid cookieInfo
  have HI2 := Lib.hid frInfo
  have Hl := Lib.hid hl
  have Hn := Lib.hid (show xs.length ≤ 1048576 by omega)
  clear hl hn
  obtain ⟨A, c, rfl⟩ := id hv.slice
  have hcap := hv.cap
  have HVV := Lib.hid hv
  have R := Lib.hid (Blk.new (w := w) (b := w.heap.size) #[.int .i64 0, .int .i64 0, .int .i64 0, .int .i64 0, .int .i64 0, .int .i64 0, .int .i64 0, .int .i64 0, .int .i64 0, .int .i64 0, .int .i64 0] 49 rfl)
  have HB := Lib.hid ((Below.refl w.heap.size w).alloc (Nat.le_refl _) (.cells #[.int .i64 0, .int .i64 0, .int .i64 0, .int .i64 0, .int .i64 0, .int .i64 0, .int .i64 0, .int .i64 0, .int .i64 0, .int .i64 0, .int .i64 0] 49))
  clear hv
  generalize hn0 : xs.length = n at *
  have Hn0 := Lib.hid hn0
  clear hn0
  go_enter Try.func113, Try.ntmps113
  go_wp2_with (refine wpList_store_new _ rfl 220 (.tmp 4) (.tmp 8) rfl rfl rfl HI2.out rfl (by rfl) ?_)
  have KF := Lib.hid (Blk.new (w := w.alloc (.cells #[.int .i64 0, .int .i64 0, .int .i64 0, .int .i64 0, .int .i64 0, .int .i64 0, .int .i64 0, .int .i64 0, .int .i64 0, .int .i64 0, .int .i64 0] 49)) (b := w.heap.size + 1) #[.slice A n c, .int .i64 0, .bool false] 220 (by simp))
  replace R := Lib.hid (R.out.alloc (.cells #[.slice A n c, .int .i64 0, .bool false] 220))
  replace HB := Lib.hid (HB.out.alloc HB.out.size (.cells #[.slice A n c, .int .i64 0, .bool false] 220))
  generalize hw2 : World.alloc (World.alloc w _) _ = w0 at *
  clear hw2
  generalize hg : w.heap.size + 1 = g at *
  have Hg := Lib.hid hg
  clear hg
  have F := Lib.hid (show FRd w0 g (.slice A n c) 0 false from ⟨⟨KF.out.at (i := 0) rfl, KF.out.at (i := 1) rfl, KF.out.frozen⟩, KF.out.at (i := 2) rfl⟩)
  have HV := Lib.hid (show RdB w0 (.slice A n c) xs from HVV.out.below (by exact HB.out))
  have HG := Lib.hid (Fr.refl g (g + 1) w0)
  clear KF HVV HI2
  replace F := Lib.hid (show FRx w0 g (.slice A n c) 0 from ⟨0, false, F.out, .inr rfl, by omega⟩)
  refine (next_x g 0 _ xs _ F.out HV.out (by have := Hn0.out; have := Hn.out; omega) (by omega)).mono ?_
  rintro e wa0 ⟨z0, rfl, f, h, k⟩
  replace F := Lib.hid f
  replace HV := Lib.hid h
  replace HG := Lib.hid (HG.out.trans k)
  clear f h k
  go_wp2_with fail
  refine (next_x g 1 _ xs _ F.out HV.out (by have := Hn0.out; have := Hn.out; omega) (by omega)).mono ?_
  rintro e wa1 ⟨z1, rfl, f, h, k⟩
  replace F := Lib.hid f
  replace HV := Lib.hid h
  replace HG := Lib.hid (HG.out.trans k)
  clear f h k
  go_wp2_with fail
  refine (next_x g 2 _ xs _ F.out HV.out (by have := Hn0.out; have := Hn.out; omega) (by omega)).mono ?_
  rintro e wa2 ⟨z2, rfl, f, h, k⟩
  replace F := Lib.hid f
  replace HV := Lib.hid h
  replace HG := Lib.hid (HG.out.trans k)
  clear f h k
  go_wp2_with fail
  refine (next_x g 3 _ xs _ F.out HV.out (by have := Hn0.out; have := Hn.out; omega) (by omega)).mono ?_
  rintro e wa3 ⟨z3, rfl, f, h, k⟩
  replace F := Lib.hid f
  replace HV := Lib.hid h
  replace HG := Lib.hid (HG.out.trans k)
  clear f h k
  go_wp2_with fail
  refine (next_x g 4 _ xs _ F.out HV.out (by have := Hn0.out; have := Hn.out; omega) (by omega)).mono ?_
  rintro e wa4 ⟨z4, rfl, f, h, k⟩
  replace F := Lib.hid f
  replace HV := Lib.hid h
  replace HG := Lib.hid (HG.out.trans k)
  clear f h k
  go_wp2_with fail
  refine (next_x g 5 _ xs _ F.out HV.out (by have := Hn0.out; have := Hn.out; omega) (by omega)).mono ?_
  rintro e wa5 ⟨z5, rfl, f, h, k⟩
  replace F := Lib.hid f
  replace HV := Lib.hid h
  replace HG := Lib.hid (HG.out.trans k)
  clear f h k
  go_wp2_with fail
  refine (next_x g 6 _ xs _ F.out HV.out (by have := Hn0.out; have := Hn.out; omega) (by omega)).mono ?_
  rintro e wa6 ⟨z6, rfl, f, h, k⟩
  replace F := Lib.hid f
  replace HV := Lib.hid h
  replace HG := Lib.hid (HG.out.trans k)
  clear f h k
  go_wp2_with fail
  refine (next_x g 7 _ xs _ F.out HV.out (by have := Hn0.out; have := Hn.out; omega) (by omega)).mono ?_
  rintro e wa7 ⟨z7, rfl, f, h, k⟩
  replace F := Lib.hid f
  replace HV := Lib.hid h
  replace HG := Lib.hid (HG.out.trans k)
  clear f h k
  go_wp2_with fail
  refine (next_x g 8 _ xs _ F.out HV.out (by have := Hn0.out; have := Hn.out; omega) (by omega)).mono ?_
  rintro e wa8 ⟨z8, rfl, f, h, k⟩
  replace F := Lib.hid f
  replace HV := Lib.hid h
  replace HG := Lib.hid (HG.out.trans k)
  clear f h k
  go_wp2_with fail
  refine (next_x g 9 _ xs _ F.out HV.out (by have := Hn0.out; have := Hn.out; omega) (by omega)).mono ?_
  rintro e wa9 ⟨z9, rfl, f, h, k⟩
  replace F := Lib.hid f
  replace HV := Lib.hid h
  replace HG := Lib.hid (HG.out.trans k)
  clear f h k
  go_wp2_with fail
  refine (next_x g 10 _ xs _ F.out HV.out (by have := Hn0.out; have := Hn.out; omega) (by omega)).mono ?_
  rintro e wa10 ⟨z10, rfl, f, h, k⟩
  replace F := Lib.hid f
  replace HV := Lib.hid h
  replace HG := Lib.hid (HG.out.trans k)
  clear f h k
  replace R := Lib.hid (R.out.frg HG.out (by have := Hg.out; omega))
  replace HB := Lib.hid (HB.out.trans (HG.out.below (by have := Hg.out; omega) HB.out.size))
  have K := Lib.hid (Blk.new (w := wa10) (b := wa10.heap.size) #[.int .i64 z0, .int .i64 z1, .int .i64 z2, .int .i64 z3, .int .i64 z4, .int .i64 z5, .int .i64 z6, .int .i64 z7, .int .i64 z8, .int .i64 z9, .int .i64 z10] 49 rfl)
  replace F := Lib.hid (F.out)
  replace R := Lib.hid (R.out.alloc (.cells #[.int .i64 z0, .int .i64 z1, .int .i64 z2, .int .i64 z3, .int .i64 z4, .int .i64 z5, .int .i64 z6, .int .i64 z7, .int .i64 z8, .int .i64 z9, .int .i64 z10] 49))
  replace HB := Lib.hid (HB.out.alloc HB.out.size (.cells #[.int .i64 z0, .int .i64 z1, .int .i64 z2, .int .i64 z3, .int .i64 z4, .int .i64 z5, .int .i64 z6, .int .i64 z7, .int .i64 z8, .int .i64 z9, .int .i64 z10] 49))
  replace HV := Lib.hid (HV.out.below ((Below.refl _ _).alloc (Nat.le_refl _) (.cells #[.int .i64 z0, .int .i64 z1, .int .i64 z2, .int .i64 z3, .int .i64 z4, .int .i64 z5, .int .i64 z6, .int .i64 z7, .int .i64 z8, .int .i64 z9, .int .i64 z10] 49)))
  obtain ⟨a, bad, f1, f2, f3⟩ := F.out
  replace F := Lib.hid (f1.keep ((Below.refl _ _).alloc (Nat.le_refl _) (.cells #[.int .i64 z0, .int .i64 z1, .int .i64 z2, .int .i64 z3, .int .i64 z4, .int .i64 z5, .int .i64 z6, .int .i64 z7, .int .i64 z8, .int .i64 z9, .int .i64 z10] 49)))
  have HD := Lib.hid (show (!bad && decide (a = xs.length)) = false by
    have h1 := Hn0.out
    have h2 := Hl.out
    rcases f2 with rfl | rfl
    · rfl
    · rw [decide_eq_false (by omega)]; simp)
  clear f1 f2 f3
  go_wp2_with (refine wpList_store_new _ rfl 49 (.tmp 5) (.tmp 20) rfl rfl rfl HI.out rfl (by rfl) ?_)
  generalize hcb : wa10.heap.size = cb at *
  generalize hw3 : World.alloc wa10 _ = w3 at *
  have Hcb := Lib.hid hcb
  clear hw3 hcb HI
  refine wp_region_free 2 (fun y => Below w3.heap.size w3 y) (fun vals i v y f => match i with | 0 => v = .agg #[.int .i64 z0, .int .i64 z1, .int .i64 z2, .int .i64 z3, .int .i64 z4, .int .i64 z5, .int .i64 z6, .int .i64 z7, .int .i64 z8, .int .i64 z9, .int .i64 z10] ∧ f = [] | 1 => v = .bool false ∧ f = [] | _ => False) (fun i => i) (by kernel_rfl) (by kernel_rfl) (fun _ i v y y' f h hb => by match i, h with | 0, h => exact h | 1, h => exact h) (fun _ _ _ _ _ _ _ _ _ h => h) (Below.refl _ _).drew ?_ ?_
  · intro vals
    simp only [List.take_succ_cons, List.take_zero, Steps]
    refine ⟨?_, ?_, trivial⟩
    · intro y fp0 hS hd
      try simp only [Act.put, List.setIfInBounds_toArray, List.set_cons_zero, List.set_cons_succ]
      have k0 := (K.out.keep hS).at (i := 0) rfl; have k1 := (K.out.keep hS).at (i := 1) rfl; have k2 := (K.out.keep hS).at (i := 2) rfl; have k3 := (K.out.keep hS).at (i := 3) rfl; have k4 := (K.out.keep hS).at (i := 4) rfl; have k5 := (K.out.keep hS).at (i := 5) rfl; have k6 := (K.out.keep hS).at (i := 6) rfl; have k7 := (K.out.keep hS).at (i := 7) rfl; have k8 := (K.out.keep hS).at (i := 8) rfl; have k9 := (K.out.keep hS).at (i := 9) rfl; have k10 := (K.out.keep hS).at (i := 10) rfl
      refine FreeUpon.pure (.agg #[.int .i64 z0, .int .i64 z1, .int .i64 z2, .int .i64 z3, .int .i64 z4, .int .i64 z5, .int .i64 z6, .int .i64 z7, .int .i64 z8, .int .i64 z9, .int .i64 z10]) ?_ ⟨rfl, rfl⟩ hS
      clear hS hd
      go_simp
    · intro y fp0 hS hd
      try simp only [Act.put, List.setIfInBounds_toArray, List.set_cons_zero, List.set_cons_succ]
      refine FreeUpon.call (g := 177) (args := #[.pointer (some ⟨g, 0, none⟩)]) ?_ ((done_any g a _ xs bad y (F.out.keep hS) (HV.out.below hS) (by have := Hn0.out; have := Hn.out; omega)).mono fun e y' ⟨he, h3⟩ => ⟨_, [], he, ⟨by rw [HD.out], rfl⟩, Nw.nil _ _, h3, hS.trans (h3.mono hS.size)⟩)
      go_simp
  · intro vals fp y hS hb hf
    have e0 : vals 0 = .agg #[.int .i64 z0, .int .i64 z1, .int .i64 z2, .int .i64 z3, .int .i64 z4, .int .i64 z5, .int .i64 z6, .int .i64 z7, .int .i64 z8, .int .i64 z9, .int .i64 z10] := (hf.1 0 (by omega) rfl).1.1
    have e1 : vals 1 = .bool false := (hf.1 1 (by omega) rfl).1.1
    replace R := Lib.hid (R.out.keep hS)
    replace HB := Lib.hid (HB.out.trans (hS.mono HB.out.size))
    clear hf hS hb
    simp only [List.take_succ_cons, List.take_zero, List.drop_succ_cons, List.drop_zero, putAll, Act.put, List.setIfInBounds_toArray, List.set_cons_zero, List.set_cons_succ, e0, e1]
    clear e0 e1
    have rk0 := R.out.at (i := 0) rfl
    have rz0 := R.out.frozen 0
    have rk1 := R.out.at (i := 1) rfl
    have rz1 := R.out.frozen 1
    have rk2 := R.out.at (i := 2) rfl
    have rz2 := R.out.frozen 2
    have rk3 := R.out.at (i := 3) rfl
    have rz3 := R.out.frozen 3
    have rk4 := R.out.at (i := 4) rfl
    have rz4 := R.out.frozen 4
    have rk5 := R.out.at (i := 5) rfl
    have rz5 := R.out.frozen 5
    have rk6 := R.out.at (i := 6) rfl
    have rz6 := R.out.frozen 6
    have rk7 := R.out.at (i := 7) rfl
    have rz7 := R.out.frozen 7
    have rk8 := R.out.at (i := 8) rfl
    have rz8 := R.out.frozen 8
    have rk9 := R.out.at (i := 9) rfl
    have rz9 := R.out.frozen 9
    have rk10 := R.out.at (i := 10) rfl
    have rz10 := R.out.frozen 10
    go_wp2
    refine bodyPost_ret (v := .tuple #[.agg #[.int .i64 z0, .int .i64 z1, .int .i64 z2, .int .i64 z3, .int .i64 z4, .int .i64 z5, .int .i64 z6, .int .i64 z7, .int .i64 z8, .int .i64 z9, .int .i64 z10], .bool false]) (by simp [results, Try.results113, go_sem, rk0, rk1, rk2, rk3, rk4, rk5, rk6, rk7, rk8, rk9, rk10]) rfl ⟨⟨z0, z1, z2, z3, z4, z5, z6, z7, z8, z9, z10⟩, rfl, ?_⟩
    have hbb := HB.out
    (repeat first | with_reducible exact Below.refl _ _ | with_reducible assumption | with_reducible refine Below.setCell ?_ (by first | exact Nat.le_refl _ | (simp; done) | (simp; omega) | omega) _ | with_reducible refine Below.alloc ?_ (by first | exact Nat.le_refl _ | (simp; done) | (simp; omega) | omega) _ | with_reducible refine Below.drew ?_)
set_option maxRecDepth 100000 in
set_option maxHeartbeats 8000000 in
theorem implAscTaste_n (s me pe now : Int) (v : Value) (xs : List UInt8) (w : World) (hv : RdB w v xs) (hn : xs.length ≤ 1048576) : Calls Try.prog 50 #[.int .i64 s, .int .i64 me, .int .i64 pe, .int .i64 now, v] w fun e w' => e = .returned (.tuple #[.agg #[.int .i64 (tasteF s me pe now xs).1.xMe, .int .i64 (tasteF s me pe now xs).1.xPeer, .int .i64 (tasteF s me pe now xs).1.xTag, .int .i64 (tasteF s me pe now xs).1.xPeerTag, .int .i64 (tasteF s me pe now xs).1.xTsn, .int .i64 (tasteF s me pe now xs).1.xPeerTsn, .int .i64 (tasteF s me pe now xs).1.xStreams, .int .i64 (tasteF s me pe now xs).1.xMade, .int .i64 (tasteF s me pe now xs).1.xOldTag, .int .i64 (tasteF s me pe now xs).1.xOldPeerTag, .int .i64 (tasteF s me pe now xs).1.xMac], .int .i64 (tasteF s me pe now xs).2]) ∧ Below w.heap.size w w' := by
  have HI := Lib.hid cookieInfo
  have HV := Lib.hid (hv.below ((Below.refl _ _).alloc (Nat.le_refl _) (.cells #[.int .i64 0, .int .i64 0, .int .i64 0, .int .i64 0, .int .i64 0, .int .i64 0, .int .i64 0, .int .i64 0, .int .i64 0, .int .i64 0, .int .i64 0] 49)))
  have R := Lib.hid (Blk.new (w := w) (b := w.heap.size) #[.int .i64 0, .int .i64 0, .int .i64 0, .int .i64 0, .int .i64 0, .int .i64 0, .int .i64 0, .int .i64 0, .int .i64 0, .int .i64 0, .int .i64 0] 49 rfl)
  have HB := Lib.hid ((Below.refl w.heap.size w).alloc (Nat.le_refl _) (.cells #[.int .i64 0, .int .i64 0, .int .i64 0, .int .i64 0, .int .i64 0, .int .i64 0, .int .i64 0, .int .i64 0, .int .i64 0, .int .i64 0, .int .i64 0] 49))
  have Hn := Lib.hid hn
  clear hv hn
  by_cases hl : xs.length = 44
  rotate_left
  · have Hr := Lib.hid (show tasteF s me pe now xs = (zeroC, 1) by unfold tasteF; rw [if_neg hl])
    have Hl := Lib.hid hl
    clear hl
    go_enter Try.func50, Try.ntmps50
    go_wp2_with fail
    refine (ascRead_no _ xs _ HV.out Hl.out Hn.out).mono ?_
    rintro e w1 ⟨C, rfl, b1⟩
    replace R := Lib.hid (R.out.keep b1)
    replace HB := Lib.hid (HB.out.trans (b1.mono HB.out.size))
    clear b1
    replace R := Lib.hid (R.out.alloc (.cells #[.int .i64 C.xMe, .int .i64 C.xPeer, .int .i64 C.xTag, .int .i64 C.xPeerTag, .int .i64 C.xTsn, .int .i64 C.xPeerTsn, .int .i64 C.xStreams, .int .i64 C.xMade, .int .i64 C.xOldTag, .int .i64 C.xOldPeerTag, .int .i64 C.xMac] 49))
    replace HB := Lib.hid (HB.out.alloc HB.out.size (.cells #[.int .i64 C.xMe, .int .i64 C.xPeer, .int .i64 C.xTag, .int .i64 C.xPeerTag, .int .i64 C.xTsn, .int .i64 C.xPeerTsn, .int .i64 C.xStreams, .int .i64 C.xMade, .int .i64 C.xOldTag, .int .i64 C.xOldPeerTag, .int .i64 C.xMac] 49))
    have rk0 := R.out.at (i := 0) rfl
    have rz0 := R.out.frozen 0
    have rk1 := R.out.at (i := 1) rfl
    have rz1 := R.out.frozen 1
    have rk2 := R.out.at (i := 2) rfl
    have rz2 := R.out.frozen 2
    have rk3 := R.out.at (i := 3) rfl
    have rz3 := R.out.frozen 3
    have rk4 := R.out.at (i := 4) rfl
    have rz4 := R.out.frozen 4
    have rk5 := R.out.at (i := 5) rfl
    have rz5 := R.out.frozen 5
    have rk6 := R.out.at (i := 6) rfl
    have rz6 := R.out.frozen 6
    have rk7 := R.out.at (i := 7) rfl
    have rz7 := R.out.frozen 7
    have rk8 := R.out.at (i := 8) rfl
    have rz8 := R.out.frozen 8
    have rk9 := R.out.at (i := 9) rfl
    have rz9 := R.out.frozen 9
    have rk10 := R.out.at (i := 10) rfl
    have rz10 := R.out.frozen 10
    go_wp2_with (refine wpList_store_new _ rfl 49 (.tmp 12) (.tmp 17) rfl rfl rfl HI.out rfl (by rfl) ?_)
    refine bodyPost_ret (v := .tuple #[.agg #[.int .i64 0, .int .i64 0, .int .i64 0, .int .i64 0, .int .i64 0, .int .i64 0, .int .i64 0, .int .i64 0, .int .i64 0, .int .i64 0, .int .i64 0], .int .i64 1]) (by simp [results, Try.results50, go_sem, rk0, rk1, rk2, rk3, rk4, rk5, rk6, rk7, rk8, rk9, rk10]) rfl ⟨by first | (rw [Hr.out]; done) | (rw [Hr.out]; rfl), ?_⟩
    have hbb := HB.out
    (repeat first | with_reducible exact Below.refl _ _ | with_reducible assumption | with_reducible refine Below.setCell ?_ (by first | exact Nat.le_refl _ | (simp; done) | (simp; omega) | omega) _ | with_reducible refine Below.alloc ?_ (by first | exact Nat.le_refl _ | (simp; done) | (simp; omega) | omega) _ | with_reducible refine Below.drew ?_)
  have HX := Lib.hid (show tasteF s me pe now xs = tasteC s me pe now (cookieF xs) by unfold tasteF; rw [if_pos hl])
  have Hl := Lib.hid hl
  clear hl
  go_enter Try.func50, Try.ntmps50
  go_wp2_with fail
  refine (ascRead_yes _ xs _ HV.out Hl.out).mono ?_
  rintro e w2 ⟨rfl, b2⟩
  replace R := Lib.hid (R.out.keep b2)
  replace HB := Lib.hid (HB.out.trans (b2.mono HB.out.size))
  clear b2 HV
  generalize cookieF xs = C at *
  have K := Lib.hid (Blk.new (w := w2) (b := w2.heap.size) #[.int .i64 C.xMe, .int .i64 C.xPeer, .int .i64 C.xTag, .int .i64 C.xPeerTag, .int .i64 C.xTsn, .int .i64 C.xPeerTsn, .int .i64 C.xStreams, .int .i64 C.xMade, .int .i64 C.xOldTag, .int .i64 C.xOldPeerTag, .int .i64 C.xMac] 49 rfl)
  replace R := Lib.hid (R.out.alloc (.cells #[.int .i64 C.xMe, .int .i64 C.xPeer, .int .i64 C.xTag, .int .i64 C.xPeerTag, .int .i64 C.xTsn, .int .i64 C.xPeerTsn, .int .i64 C.xStreams, .int .i64 C.xMade, .int .i64 C.xOldTag, .int .i64 C.xOldPeerTag, .int .i64 C.xMac] 49))
  replace HB := Lib.hid (HB.out.alloc HB.out.size (.cells #[.int .i64 C.xMe, .int .i64 C.xPeer, .int .i64 C.xTag, .int .i64 C.xPeerTag, .int .i64 C.xTsn, .int .i64 C.xPeerTsn, .int .i64 C.xStreams, .int .i64 C.xMade, .int .i64 C.xOldTag, .int .i64 C.xOldPeerTag, .int .i64 C.xMac] 49))
  go_wp2_with (refine wpList_store_new _ rfl 49 (.tmp 12) (.tmp 17) rfl rfl rfl HI.out rfl (by rfl) ?_)
  generalize hcb : w2.heap.size = cb at *
  generalize hw4 : World.alloc w2 _ = w4 at *
  clear hcb hw4
  refine (ascFits_any C _).mono ?_
  rintro e w3 ⟨rfl, b3⟩
  replace K := Lib.hid (K.out.keep b3)
  replace R := Lib.hid (R.out.keep b3)
  replace HB := Lib.hid (HB.out.trans (b3.mono HB.out.size))
  clear b3
  have HT := Lib.hid (show tasteC s me pe now C = if fitsC C = false then (zeroC, 1) else if C.xMac ≠ macF s C then (zeroC, 2) else if ¬ (C.xMe = me ∧ C.xPeer = pe) then (zeroC, 3) else if now < C.xMade ∨ C.xMade + 10 < now then (zeroC, 4) else (C, 0) from rfl)
  rcases hfit : fitsC C with _ | _
  · have Hr := Lib.hid (show tasteF s me pe now xs = (zeroC, 1) by rw [HX.out, HT.out, if_pos hfit])
    clear hfit HT
    have rk0 := R.out.at (i := 0) rfl
    have rz0 := R.out.frozen 0
    have rk1 := R.out.at (i := 1) rfl
    have rz1 := R.out.frozen 1
    have rk2 := R.out.at (i := 2) rfl
    have rz2 := R.out.frozen 2
    have rk3 := R.out.at (i := 3) rfl
    have rz3 := R.out.frozen 3
    have rk4 := R.out.at (i := 4) rfl
    have rz4 := R.out.frozen 4
    have rk5 := R.out.at (i := 5) rfl
    have rz5 := R.out.frozen 5
    have rk6 := R.out.at (i := 6) rfl
    have rz6 := R.out.frozen 6
    have rk7 := R.out.at (i := 7) rfl
    have rz7 := R.out.frozen 7
    have rk8 := R.out.at (i := 8) rfl
    have rz8 := R.out.frozen 8
    have rk9 := R.out.at (i := 9) rfl
    have rz9 := R.out.frozen 9
    have rk10 := R.out.at (i := 10) rfl
    have rz10 := R.out.frozen 10
    go_wp2
    refine bodyPost_ret (v := .tuple #[.agg #[.int .i64 0, .int .i64 0, .int .i64 0, .int .i64 0, .int .i64 0, .int .i64 0, .int .i64 0, .int .i64 0, .int .i64 0, .int .i64 0, .int .i64 0], .int .i64 1]) (by simp [results, Try.results50, go_sem, rk0, rk1, rk2, rk3, rk4, rk5, rk6, rk7, rk8, rk9, rk10]) rfl ⟨by first | (rw [Hr.out]; done) | (rw [Hr.out]; rfl), ?_⟩
    have hbb := HB.out
    (repeat first | with_reducible exact Below.refl _ _ | with_reducible assumption | with_reducible refine Below.setCell ?_ (by first | exact Nat.le_refl _ | (simp; done) | (simp; omega) | omega) _ | with_reducible refine Below.alloc ?_ (by first | exact Nat.le_refl _ | (simp; done) | (simp; omega) | omega) _ | with_reducible refine Below.drew ?_)
  have Hmd := Lib.hid (show 0 ≤ C.xMade ∧ C.xMade ≤ 1000000 by simp only [fitsC, inB_iff, Bool.and_eq_true] at hfit; omega)
  replace HT := Lib.hid (show tasteC s me pe now C = if C.xMac ≠ macF s C then (zeroC, 2) else if ¬ (C.xMe = me ∧ C.xPeer = pe) then (zeroC, 3) else if now < C.xMade ∨ C.xMade + 10 < now then (zeroC, 4) else (C, 0) by rw [HT.out, if_neg (by rw [hfit]; decide)])
  clear hfit
  have Hcb := Lib.hid K.out.lt
  go_wp2_with fail
  generalize hmc : macF s C = mc at *
  have Hmc := Lib.hid hmc
  clear hmc
  refine wp_region_free 6 (fun y => Below w3.heap.size w3 y) (fun vals i v y f => match i with | 0 => v = .pointer (some ⟨cb, 10, none⟩) ∧ f = [] | 1 => v = .int .i64 C.xMac ∧ f = [] | 2 => v = .int .i64 s ∧ f = [] | 3 => v = .agg #[.int .i64 C.xMe, .int .i64 C.xPeer, .int .i64 C.xTag, .int .i64 C.xPeerTag, .int .i64 C.xTsn, .int .i64 C.xPeerTsn, .int .i64 C.xStreams, .int .i64 C.xMade, .int .i64 C.xOldTag, .int .i64 C.xOldPeerTag, .int .i64 C.xMac] ∧ f = [] | 4 => v = .int .i64 mc ∧ f = [] | 5 => v = .bool (C.xMac != mc) ∧ f = [] | _ => False) (fun i => i) (by kernel_rfl) (by kernel_rfl) (fun _ i v y y' f h hb => by match i, h with | 0, h => exact h | 1, h => exact h | 2, h => exact h | 3, h => exact h | 4, h => exact h | 5, h => exact h) (fun _ _ _ _ _ _ _ _ _ h => h) (Below.refl _ _).drew ?_ ?_
  · intro vals
    simp only [List.take_succ_cons, List.take_zero, Steps]
    refine ⟨?_, ?_, ?_, ?_, ?_, ?_, trivial⟩
    · intro y fp0 hS hd
      try simp only [Act.put, List.setIfInBounds_toArray, List.set_cons_zero, List.set_cons_succ]
      refine FreeUpon.pure (.pointer (some ⟨cb, 10, none⟩)) ?_ ⟨rfl, rfl⟩ hS
      clear hS hd
      go_simp
    · intro y fp0 hS hd
      try simp only [Act.put, List.setIfInBounds_toArray, List.set_cons_zero, List.set_cons_succ]
      have hv0 : vals 0 = .pointer (some ⟨cb, 10, none⟩) := (hd { on := 0, ground := Ground.data } (by simp) (by kernel_rfl)).1.1
      have k10 := (K.out.keep hS).at (i := 10) rfl
      refine FreeUpon.pure (.int .i64 C.xMac) ?_ ⟨rfl, rfl⟩ hS
      simp only [hv0]
      clear hS hd
      go_simp
    · intro y fp0 hS hd
      try simp only [Act.put, List.setIfInBounds_toArray, List.set_cons_zero, List.set_cons_succ]
      refine FreeUpon.pure (.int .i64 s) ?_ ⟨rfl, rfl⟩ hS
      clear hS hd
      go_simp
    · intro y fp0 hS hd
      try simp only [Act.put, List.setIfInBounds_toArray, List.set_cons_zero, List.set_cons_succ]
      have k0 := (K.out.keep hS).at (i := 0) rfl
      have k1 := (K.out.keep hS).at (i := 1) rfl
      have k2 := (K.out.keep hS).at (i := 2) rfl
      have k3 := (K.out.keep hS).at (i := 3) rfl
      have k4 := (K.out.keep hS).at (i := 4) rfl
      have k5 := (K.out.keep hS).at (i := 5) rfl
      have k6 := (K.out.keep hS).at (i := 6) rfl
      have k7 := (K.out.keep hS).at (i := 7) rfl
      have k8 := (K.out.keep hS).at (i := 8) rfl
      have k9 := (K.out.keep hS).at (i := 9) rfl
      have k10 := (K.out.keep hS).at (i := 10) rfl
      refine FreeUpon.pure (.agg #[.int .i64 C.xMe, .int .i64 C.xPeer, .int .i64 C.xTag, .int .i64 C.xPeerTag, .int .i64 C.xTsn, .int .i64 C.xPeerTsn, .int .i64 C.xStreams, .int .i64 C.xMade, .int .i64 C.xOldTag, .int .i64 C.xOldPeerTag, .int .i64 C.xMac]) ?_ ⟨rfl, rfl⟩ hS
      clear hS hd
      go_simp
    · intro y fp0 hS hd
      try simp only [Act.put, List.setIfInBounds_toArray, List.set_cons_zero, List.set_cons_succ]
      have hv2 : vals 2 = .int .i64 s := (hd { on := 2, ground := Ground.data } (by simp) (by kernel_rfl)).1.1
      have hv3 : vals 3 = .agg #[.int .i64 C.xMe, .int .i64 C.xPeer, .int .i64 C.xTag, .int .i64 C.xPeerTag, .int .i64 C.xTsn, .int .i64 C.xPeerTsn, .int .i64 C.xStreams, .int .i64 C.xMade, .int .i64 C.xOldTag, .int .i64 C.xOldPeerTag, .int .i64 C.xMac] := (hd { on := 3, ground := Ground.data } (by simp) (by kernel_rfl)).1.1
      refine FreeUpon.call (g := 103) (args := #[.int .i64 s, .agg #[.int .i64 C.xMe, .int .i64 C.xPeer, .int .i64 C.xTag, .int .i64 C.xPeerTag, .int .i64 C.xTsn, .int .i64 C.xPeerTsn, .int .i64 C.xStreams, .int .i64 C.xMade, .int .i64 C.xOldTag, .int .i64 C.xOldPeerTag, .int .i64 C.xMac]]) ?_ ((implAscMac_r s C y).mono fun e y' ⟨he, h3⟩ => ⟨_, [], he, ⟨by rw [Hmc.out], rfl⟩, Nw.nil _ _, h3, hS.trans (h3.mono hS.size)⟩)
      simp only [hv2, hv3]
      go_simp
    · intro y fp0 hS hd
      try simp only [Act.put, List.setIfInBounds_toArray, List.set_cons_zero, List.set_cons_succ]
      have hv1 : vals 1 = .int .i64 C.xMac := (hd { on := 1, ground := Ground.data } (by simp) (by kernel_rfl)).1.1
      have hv4 : vals 4 = .int .i64 mc := (hd { on := 4, ground := Ground.data } (by simp) (by kernel_rfl)).1.1
      refine FreeUpon.pure (.bool (C.xMac != mc)) ?_ ⟨rfl, rfl⟩ hS
      simp only [hv1, hv4]
      clear hS hd
      go_simp
  · intro vals fp y hS hb hf
    have e0 : vals 0 = .pointer (some ⟨cb, 10, none⟩) := (hf.1 0 (by omega) rfl).1.1
    have e1 : vals 1 = .int .i64 C.xMac := (hf.1 1 (by omega) rfl).1.1
    have e2 : vals 2 = .int .i64 s := (hf.1 2 (by omega) rfl).1.1
    have e3 : vals 3 = .agg #[.int .i64 C.xMe, .int .i64 C.xPeer, .int .i64 C.xTag, .int .i64 C.xPeerTag, .int .i64 C.xTsn, .int .i64 C.xPeerTsn, .int .i64 C.xStreams, .int .i64 C.xMade, .int .i64 C.xOldTag, .int .i64 C.xOldPeerTag, .int .i64 C.xMac] := (hf.1 3 (by omega) rfl).1.1
    have e4 : vals 4 = .int .i64 mc := (hf.1 4 (by omega) rfl).1.1
    have e5 : vals 5 = .bool (C.xMac != mc) := (hf.1 5 (by omega) rfl).1.1
    replace K := Lib.hid (K.out.keep hS)
    replace R := Lib.hid (R.out.keep hS)
    replace HB := Lib.hid (HB.out.trans (hS.mono HB.out.size))
    clear hf hS hb
    simp only [List.take_succ_cons, List.take_zero, List.drop_succ_cons, List.drop_zero, putAll, Act.put, List.setIfInBounds_toArray, List.set_cons_zero, List.set_cons_succ, e0, e1, e2, e3, e4, e5]
    clear e0 e1 e2 e3 e4 e5
    rcases hm : (C.xMac != mc) with _ | _
    rotate_left
    · have hne : C.xMac ≠ mc := by simpa using hm
      have Hr := Lib.hid (show tasteF s me pe now xs = (zeroC, 2) by rw [HX.out, HT.out, if_pos hne])
      clear hm hne HT
      have rk0 := R.out.at (i := 0) rfl
      have rz0 := R.out.frozen 0
      have rk1 := R.out.at (i := 1) rfl
      have rz1 := R.out.frozen 1
      have rk2 := R.out.at (i := 2) rfl
      have rz2 := R.out.frozen 2
      have rk3 := R.out.at (i := 3) rfl
      have rz3 := R.out.frozen 3
      have rk4 := R.out.at (i := 4) rfl
      have rz4 := R.out.frozen 4
      have rk5 := R.out.at (i := 5) rfl
      have rz5 := R.out.frozen 5
      have rk6 := R.out.at (i := 6) rfl
      have rz6 := R.out.frozen 6
      have rk7 := R.out.at (i := 7) rfl
      have rz7 := R.out.frozen 7
      have rk8 := R.out.at (i := 8) rfl
      have rz8 := R.out.frozen 8
      have rk9 := R.out.at (i := 9) rfl
      have rz9 := R.out.frozen 9
      have rk10 := R.out.at (i := 10) rfl
      have rz10 := R.out.frozen 10
      go_wp2
      refine bodyPost_ret (v := .tuple #[.agg #[.int .i64 0, .int .i64 0, .int .i64 0, .int .i64 0, .int .i64 0, .int .i64 0, .int .i64 0, .int .i64 0, .int .i64 0, .int .i64 0, .int .i64 0], .int .i64 2]) (by simp [results, Try.results50, go_sem, rk0, rk1, rk2, rk3, rk4, rk5, rk6, rk7, rk8, rk9, rk10]) rfl ⟨by first | (rw [Hr.out]; done) | (rw [Hr.out]; rfl), ?_⟩
      have hbb := HB.out
      (repeat first | with_reducible exact Below.refl _ _ | with_reducible assumption | with_reducible refine Below.setCell ?_ (by first | exact Nat.le_refl _ | (simp; done) | (simp; omega) | omega) _ | with_reducible refine Below.alloc ?_ (by first | exact Nat.le_refl _ | (simp; done) | (simp; omega) | omega) _ | with_reducible refine Below.drew ?_)
    have heq : ¬ C.xMac ≠ mc := by simpa using hm
    replace HT := Lib.hid (show tasteC s me pe now C = if ¬ (C.xMe = me ∧ C.xPeer = pe) then (zeroC, 3) else if now < C.xMade ∨ C.xMade + 10 < now then (zeroC, 4) else (C, 0) by rw [HT.out, if_neg heq])
    clear hm heq
    by_cases hw : C.xMe = me ∧ C.xPeer = pe
    rotate_left
    · have Hr := Lib.hid (show tasteF s me pe now xs = (zeroC, 3) by rw [HX.out, HT.out, if_pos hw])
      clear HT
      have kc0 := K.out.at (i := 0) rfl
      have kc1 := K.out.at (i := 1) rfl
      have rk0 := R.out.at (i := 0) rfl
      have rz0 := R.out.frozen 0
      have rk1 := R.out.at (i := 1) rfl
      have rz1 := R.out.frozen 1
      have rk2 := R.out.at (i := 2) rfl
      have rz2 := R.out.frozen 2
      have rk3 := R.out.at (i := 3) rfl
      have rz3 := R.out.frozen 3
      have rk4 := R.out.at (i := 4) rfl
      have rz4 := R.out.frozen 4
      have rk5 := R.out.at (i := 5) rfl
      have rz5 := R.out.frozen 5
      have rk6 := R.out.at (i := 6) rfl
      have rz6 := R.out.frozen 6
      have rk7 := R.out.at (i := 7) rfl
      have rz7 := R.out.frozen 7
      have rk8 := R.out.at (i := 8) rfl
      have rz8 := R.out.frozen 8
      have rk9 := R.out.at (i := 9) rfl
      have rz9 := R.out.frozen 9
      have rk10 := R.out.at (i := 10) rfl
      have rz10 := R.out.frozen 10
      by_cases hme : C.xMe = me
      · have hpe : ¬ C.xPeer = pe := fun h => hw ⟨hme, h⟩
        have b0 : (C.xMe != me) = false := by simp [hme]
        have b1 : (C.xPeer != pe) = true := by simp [hpe]
        clear hw hme hpe
        go_wp2
        refine bodyPost_ret (v := .tuple #[.agg #[.int .i64 0, .int .i64 0, .int .i64 0, .int .i64 0, .int .i64 0, .int .i64 0, .int .i64 0, .int .i64 0, .int .i64 0, .int .i64 0, .int .i64 0], .int .i64 3]) (by simp [results, Try.results50, go_sem, rk0, rk1, rk2, rk3, rk4, rk5, rk6, rk7, rk8, rk9, rk10]) rfl ⟨by first | (rw [Hr.out]; done) | (rw [Hr.out]; rfl), ?_⟩
        have hbb := HB.out
        (repeat first | with_reducible exact Below.refl _ _ | with_reducible assumption | with_reducible refine Below.setCell ?_ (by first | exact Nat.le_refl _ | (simp; done) | (simp; omega) | omega) _ | with_reducible refine Below.alloc ?_ (by first | exact Nat.le_refl _ | (simp; done) | (simp; omega) | omega) _ | with_reducible refine Below.drew ?_)
      · have b0 : (C.xMe != me) = true := by simp [hme]
        clear hw hme
        go_wp2
        refine bodyPost_ret (v := .tuple #[.agg #[.int .i64 0, .int .i64 0, .int .i64 0, .int .i64 0, .int .i64 0, .int .i64 0, .int .i64 0, .int .i64 0, .int .i64 0, .int .i64 0, .int .i64 0], .int .i64 3]) (by simp [results, Try.results50, go_sem, rk0, rk1, rk2, rk3, rk4, rk5, rk6, rk7, rk8, rk9, rk10]) rfl ⟨by first | (rw [Hr.out]; done) | (rw [Hr.out]; rfl), ?_⟩
        have hbb := HB.out
        (repeat first | with_reducible exact Below.refl _ _ | with_reducible assumption | with_reducible refine Below.setCell ?_ (by first | exact Nat.le_refl _ | (simp; done) | (simp; omega) | omega) _ | with_reducible refine Below.alloc ?_ (by first | exact Nat.le_refl _ | (simp; done) | (simp; omega) | omega) _ | with_reducible refine Below.drew ?_)
    have b0 : (C.xMe != me) = false := by simp [hw.1]
    have b1 : (C.xPeer != pe) = false := by simp [hw.2]
    replace HT := Lib.hid (show tasteC s me pe now C = if now < C.xMade ∨ C.xMade + 10 < now then (zeroC, 4) else (C, 0) by rw [HT.out, if_neg (fun h => h hw)])
    clear hw
    have hmd := Hmd.out
    have kc0 := K.out.at (i := 0) rfl
    have kc1 := K.out.at (i := 1) rfl
    have kc7 := K.out.at (i := 7) rfl
    by_cases ht : now < C.xMade ∨ C.xMade + 10 < now
    · have Hr := Lib.hid (show tasteF s me pe now xs = (zeroC, 4) by rw [HX.out, HT.out, if_pos ht])
      have hin : inB now C.xMade (C.xMade + 10) = false := inB_not.2 ht
      clear HT ht
      have rk0 := R.out.at (i := 0) rfl
      have rz0 := R.out.frozen 0
      have rk1 := R.out.at (i := 1) rfl
      have rz1 := R.out.frozen 1
      have rk2 := R.out.at (i := 2) rfl
      have rz2 := R.out.frozen 2
      have rk3 := R.out.at (i := 3) rfl
      have rz3 := R.out.frozen 3
      have rk4 := R.out.at (i := 4) rfl
      have rz4 := R.out.frozen 4
      have rk5 := R.out.at (i := 5) rfl
      have rz5 := R.out.frozen 5
      have rk6 := R.out.at (i := 6) rfl
      have rz6 := R.out.frozen 6
      have rk7 := R.out.at (i := 7) rfl
      have rz7 := R.out.frozen 7
      have rk8 := R.out.at (i := 8) rfl
      have rz8 := R.out.frozen 8
      have rk9 := R.out.at (i := 9) rfl
      have rz9 := R.out.frozen 9
      have rk10 := R.out.at (i := 10) rfl
      have rz10 := R.out.frozen 10
      go_wp2_with (go_at_call 87; refine (frmIn_any _ _ _ _).mono ?_; rintro e w' ⟨rfl, rfl⟩)
      refine bodyPost_ret (v := .tuple #[.agg #[.int .i64 0, .int .i64 0, .int .i64 0, .int .i64 0, .int .i64 0, .int .i64 0, .int .i64 0, .int .i64 0, .int .i64 0, .int .i64 0, .int .i64 0], .int .i64 4]) (by simp [results, Try.results50, go_sem, rk0, rk1, rk2, rk3, rk4, rk5, rk6, rk7, rk8, rk9, rk10]) rfl ⟨by first | (rw [Hr.out]; done) | (rw [Hr.out]; rfl), ?_⟩
      have hbb := HB.out
      (repeat first | with_reducible exact Below.refl _ _ | with_reducible assumption | with_reducible refine Below.setCell ?_ (by first | exact Nat.le_refl _ | (simp; done) | (simp; omega) | omega) _ | with_reducible refine Below.alloc ?_ (by first | exact Nat.le_refl _ | (simp; done) | (simp; omega) | omega) _ | with_reducible refine Below.drew ?_)
    · have Hr := Lib.hid (show tasteF s me pe now xs = (C, 0) by rw [HX.out, HT.out, if_neg ht])
      have hin : inB now C.xMade (C.xMade + 10) = true := inB_iff.2 (by omega)
      clear HT ht kc0 kc1 kc7
      have rk0 := R.out.at (i := 0) rfl
      have rz0 := R.out.frozen 0
      have rk1 := R.out.at (i := 1) rfl
      have rz1 := R.out.frozen 1
      have rk2 := R.out.at (i := 2) rfl
      have rz2 := R.out.frozen 2
      have rk3 := R.out.at (i := 3) rfl
      have rz3 := R.out.frozen 3
      have rk4 := R.out.at (i := 4) rfl
      have rz4 := R.out.frozen 4
      have rk5 := R.out.at (i := 5) rfl
      have rz5 := R.out.frozen 5
      have rk6 := R.out.at (i := 6) rfl
      have rz6 := R.out.frozen 6
      have rk7 := R.out.at (i := 7) rfl
      have rz7 := R.out.frozen 7
      have rk8 := R.out.at (i := 8) rfl
      have rz8 := R.out.frozen 8
      have rk9 := R.out.at (i := 9) rfl
      have rz9 := R.out.frozen 9
      have rk10 := R.out.at (i := 10) rfl
      have rz10 := R.out.frozen 10
      have ck0 := K.out.at (i := 0) rfl
      have ck1 := K.out.at (i := 1) rfl
      have ck2 := K.out.at (i := 2) rfl
      have ck3 := K.out.at (i := 3) rfl
      have ck4 := K.out.at (i := 4) rfl
      have ck5 := K.out.at (i := 5) rfl
      have ck6 := K.out.at (i := 6) rfl
      have ck7 := K.out.at (i := 7) rfl
      have ck8 := K.out.at (i := 8) rfl
      have ck9 := K.out.at (i := 9) rfl
      have ck10 := K.out.at (i := 10) rfl
      go_wp2_with (go_at_call 87; refine (frmIn_any _ _ _ _).mono ?_; rintro e w' ⟨rfl, rfl⟩)
      refine bodyPost_ret (v := .tuple #[.agg #[.int .i64 C.xMe, .int .i64 C.xPeer, .int .i64 C.xTag, .int .i64 C.xPeerTag, .int .i64 C.xTsn, .int .i64 C.xPeerTsn, .int .i64 C.xStreams, .int .i64 C.xMade, .int .i64 C.xOldTag, .int .i64 C.xOldPeerTag, .int .i64 C.xMac], .int .i64 0]) (by simp [results, Try.results50, go_sem, rk0, rk1, rk2, rk3, rk4, rk5, rk6, rk7, rk8, rk9, rk10]) rfl ⟨by first | (rw [Hr.out]; done) | (rw [Hr.out]; rfl), ?_⟩
      have hbb := HB.out
      (repeat first | with_reducible exact Below.refl _ _ | with_reducible assumption | with_reducible refine Below.setCell ?_ (by first | exact Nat.le_refl _ | (simp; done) | (simp; omega) | omega) _ | with_reducible refine Below.alloc ?_ (by first | exact Nat.le_refl _ | (simp; done) | (simp; omega) | omega) _ | with_reducible refine Below.drew ?_)
end Go.Proofs.Ytbceikhmoblacaa
