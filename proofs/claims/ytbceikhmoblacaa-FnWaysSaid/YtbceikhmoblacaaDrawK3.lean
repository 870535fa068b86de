/-
  The draw of a choice and streams. (Written by wip/tools/gendrawk3.py.)
-/
import Derived.Test.YtbceikhmoblacaaDrawK2
import Derived.Test.YtbceikhmoblacaaFreeS
namespace Go.Proofs.Ytbceikhmoblacaa
open Go.ChangeShapes Go.WideShapes Go.ChangeAt Go.RowKit Go.Maps
set_option linter.unusedVariables false
set_option linter.unusedSimpArgs false

theorem Blk.fr1 {w w' : World} {b g : Nat} {vs : List Value} (h : Blk w b vs) (hf : Fr g (g + 1) w w') (hb : b ≠ g) : Blk w' b vs :=
  ⟨Nat.lt_of_lt_of_le h.lt hf.size, fun i => (World.cell?_of_block (a := ⟨b, i, none⟩) (hf.block b h.lt (by omega))).trans (h.cell i), fun o => (World.frozen?_of_block (a := ⟨b, o, none⟩) (hf.block b h.lt (by omega))).trans (h.frozen o)⟩
def strTab : List Int := [0, 1, 5, 15, -1, -7, 9223372036854775807, -9223372036854775808]
def strTab2 : List Int := [0, 1, 2, 3, 8, -1, 9223372036854775807]
set_option maxRecDepth 100000 in
set_option maxHeartbeats 4000000 in
theorem drawKeyStream_any (v : Value) (xs : List UInt8) (w : World) (hv : RdB w v xs) :
    Calls Try.prog 29 #[v] w fun e w' => ∃ s m : Int, isInt s ∧ isInt m ∧ e = .returned (.tuple #[.int .i64 s, .int .i64 m]) ∧ Below w.heap.size w w' := by
  go_enter Try.func29, Try.ntmps29
  go_wp2_with fail
  refine (l30Open_any v xs _ hv).mono ?_
  rintro e w1 ⟨rfl, hr1, hb1, hs1⟩
  have Hb1 := Lib.hid hb1
  have Hs1 := Lib.hid hs1
  have HR := Lib.hid (show Rdk w1.heap.size w1 w.heap.size (xs.take 2000) 0 from Rdk.of hr1 (Nat.le_refl _))
  clear hb1 hs1 hr1
  generalize hg : w.heap.size = g at *
  have Hg := Lib.hid hg
  clear hg
  generalize xs.take 2000 = ys at *
  go_wp2_with fail
  refine wp_region_freeS 11 g (g + 1) (fun sel y => ∃ q, q ≤ 0 + ((if sel 2 = true then 1 else 0) + (if sel 7 = true then 1 else 0)) ∧ Rdk w1.heap.size y g ys q) (fun _ i v y f => match i with | 0 => ∃ b, b ≠ g ∧ v = .slice (some ⟨b, 0, none⟩) 8 8 ∧ Blk y b (strTab.map itv) | 1 => v = .pointer (some ⟨g, 0, none⟩) | 2 => ∃ k : Nat, k < 8 ∧ v = .int .i64 k | 3 => ∃ (b k : Nat), b ≠ g ∧ k < 8 ∧ v = .pointer (some ⟨b, k, none⟩) ∧ Blk y b (strTab.map itv) | 4 => ∃ z : Int, isInt z ∧ v = .int .i64 z | 5 => ∃ b, b ≠ g ∧ v = .slice (some ⟨b, 0, none⟩) 7 7 ∧ Blk y b (strTab2.map itv) | 6 => v = .pointer (some ⟨g, 0, none⟩) | 7 => ∃ k : Nat, k < 7 ∧ v = .int .i64 k | 8 => ∃ (b k : Nat), b ≠ g ∧ k < 7 ∧ v = .pointer (some ⟨b, k, none⟩) ∧ Blk y b (strTab2.map itv) | 9 => ∃ z : Int, isInt z ∧ v = .int .i64 z | 10 => ∃ z : Int, isInt z ∧ v = .int .i64 z | _ => False) (fun i => i) (by kernel_rfl) (by kernel_rfl) ?_ (fun _ _ _ _ _ _ _ _ _ h => h) ⟨0, by omega, HR.out.drewN 1⟩ ?_ ?_
  · intro _ i v y y' f h hf
    match i, h with
    | 0, h => obtain ⟨b, h1, h2, h3⟩ := h; exact ⟨b, h1, h2, h3.fr1 hf h1⟩
    | 1, h => exact h
    | 2, h => exact h
    | 3, h => obtain ⟨b, k, h1, h2, h3, h4⟩ := h; exact ⟨b, k, h1, h2, h3, h4.fr1 hf h1⟩
    | 4, h => exact h
    | 5, h => obtain ⟨b, h1, h2, h3⟩ := h; exact ⟨b, h1, h2, h3.fr1 hf h1⟩
    | 6, h => exact h
    | 7, h => exact h
    | 8, h => obtain ⟨b, k, h1, h2, h3, h4⟩ := h; exact ⟨b, k, h1, h2, h3, h4.fr1 hf h1⟩
    | 9, h => exact h
    | 10, h => exact h
  · intro vals
    simp only [List.take_succ_cons, List.take_zero, StepsS]
    refine ⟨?_, ?_, ?_, ?_, ?_, ?_, ?_, ?_, ?_, ?_, ?_, trivial⟩
    · intro y fp0 sel hsel hS hd
      try simp only [Act.put, List.setIfInBounds_toArray, List.set_cons_zero, List.set_cons_succ]
      obtain ⟨q, hq, hrd⟩ := hS
      refine FreeUponS.val (u := .slice (some ⟨y.heap.size, 0, none⟩) 8 8) (w' := y.alloc (.cells (strTab.map itv).toArray 3)) (f := [y.heap.size]) ?_ ⟨y.heap.size, by have := hrd.rdr.lt; omega, rfl, Blk.new (strTab.map itv).toArray _ rfl⟩ ⟨by simp, by simp⟩ ((Fr.refl _ _ _).alloc _) ⟨q, by simpa using hq, hrd.alloc _⟩
      clear hsel hd hq hrd
      simp only [strTab, itv, List.map_cons, List.map_nil]
      go_simp
    · intro y fp0 sel hsel hS hd
      try simp only [Act.put, List.setIfInBounds_toArray, List.set_cons_zero, List.set_cons_succ]
      obtain ⟨q, hq, hrd⟩ := hS
      refine FreeUponS.pure (.pointer (some ⟨g, 0, none⟩)) ?_ rfl ⟨q, by simpa using hq, hrd⟩
      clear hsel hd hq hrd
      go_simp
    · intro y fp0 sel hsel hS hd
      try simp only [Act.put, List.setIfInBounds_toArray, List.set_cons_zero, List.set_cons_succ]
      obtain ⟨q, hq, hrd⟩ := hS
      have hv : vals 1 = .pointer (some ⟨g, 0, none⟩) := (hd { on := 1, ground := Ground.data } (by simp) (by kernel_rfl)).1
      have hqb : q ≤ 1099511627776 := by (repeat' split at hq) <;> omega
      refine FreeUponS.call (g := 92) (args := #[.pointer (some ⟨g, 0, none⟩), .int .i64 8]) ?_ ((pick_k g q w1.heap.size 8 ys y hrd hqb (by omega)).mono fun e y' ⟨z, q', hz, he, hq', hr', hf', hs'⟩ => ⟨.int .i64 z, [], he, ⟨z.toNat, by omega, by rw [Int.toNat_of_nonneg hz.1]⟩, Nw.nil _ _, hf', q', by simp [hsel] at hq ⊢; (repeat' split at hq) <;> simp_all <;> omega, hr'⟩)
      simp only [hv]
      go_simp
    · intro y fp0 sel hsel hS hd
      try simp only [Act.put, List.setIfInBounds_toArray, List.set_cons_zero, List.set_cons_succ]
      obtain ⟨q, hq, hrd⟩ := hS
      obtain ⟨b, hb1, hb2, hb3⟩ := (hd { on := 0, ground := Ground.data } (by simp) (by kernel_rfl)).1
      obtain ⟨k, hk1, hk2⟩ := (hd { on := 2, ground := Ground.data } (by simp) (by kernel_rfl)).1
      try simp only at hb2 hk2
      have hkI : (k : Int) < 8 := by omega
      refine FreeUponS.pure (.pointer (some ⟨b, k, none⟩)) ?_ ⟨b, k, hb1, by omega, rfl, hb3⟩ ⟨q, by simpa using hq, hrd⟩
      simp only [hb2, hk2]
      clear hsel hd hq hrd hb2 hk2 hb3
      go_simp
    · intro y fp0 sel hsel hS hd
      try simp only [Act.put, List.setIfInBounds_toArray, List.set_cons_zero, List.set_cons_succ]
      obtain ⟨q, hq, hrd⟩ := hS
      obtain ⟨b, k, hb1, hk1, hb2, hb3⟩ := (hd { on := 3, ground := Ground.data } (by simp) (by kernel_rfl)).1
      try simp only at hb2
      have hc : y.cell? ⟨b, k, none⟩ = some (.int .i64 (tv strTab k)) := hb3.at (by simp [tv, List.getElem?_eq_getElem (show k < strTab.length from hk1), itv])
      refine FreeUponS.pure (.int .i64 (tv strTab k)) ?_ ⟨_, getD_mem (P := isInt) (show k < strTab.length from hk1) (by simp [strTab, isInt]), rfl⟩ ⟨q, by simpa using hq, hrd⟩
      generalize tv strTab k = z at *
      simp only [hb2]
      clear hsel hd hq hrd hb2 hb3
      go_simp
    · intro y fp0 sel hsel hS hd
      try simp only [Act.put, List.setIfInBounds_toArray, List.set_cons_zero, List.set_cons_succ]
      obtain ⟨q, hq, hrd⟩ := hS
      refine FreeUponS.val (u := .slice (some ⟨y.heap.size, 0, none⟩) 7 7) (w' := y.alloc (.cells (strTab2.map itv).toArray 3)) (f := [y.heap.size]) ?_ ⟨y.heap.size, by have := hrd.rdr.lt; omega, rfl, Blk.new (strTab2.map itv).toArray _ rfl⟩ ⟨by simp, by simp⟩ ((Fr.refl _ _ _).alloc _) ⟨q, by simpa using hq, hrd.alloc _⟩
      clear hsel hd hq hrd
      simp only [strTab2, itv, List.map_cons, List.map_nil]
      go_simp
    · intro y fp0 sel hsel hS hd
      try simp only [Act.put, List.setIfInBounds_toArray, List.set_cons_zero, List.set_cons_succ]
      obtain ⟨q, hq, hrd⟩ := hS
      refine FreeUponS.pure (.pointer (some ⟨g, 0, none⟩)) ?_ rfl ⟨q, by simpa using hq, hrd⟩
      clear hsel hd hq hrd
      go_simp
    · intro y fp0 sel hsel hS hd
      try simp only [Act.put, List.setIfInBounds_toArray, List.set_cons_zero, List.set_cons_succ]
      obtain ⟨q, hq, hrd⟩ := hS
      have hv : vals 6 = .pointer (some ⟨g, 0, none⟩) := (hd { on := 6, ground := Ground.data } (by simp) (by kernel_rfl)).1
      have hqb : q ≤ 1099511627776 := by (repeat' split at hq) <;> omega
      refine FreeUponS.call (g := 92) (args := #[.pointer (some ⟨g, 0, none⟩), .int .i64 7]) ?_ ((pick_k g q w1.heap.size 7 ys y hrd hqb (by omega)).mono fun e y' ⟨z, q', hz, he, hq', hr', hf', hs'⟩ => ⟨.int .i64 z, [], he, ⟨z.toNat, by omega, by rw [Int.toNat_of_nonneg hz.1]⟩, Nw.nil _ _, hf', q', by simp [hsel] at hq ⊢; (repeat' split at hq) <;> simp_all <;> omega, hr'⟩)
      simp only [hv]
      go_simp
    · intro y fp0 sel hsel hS hd
      try simp only [Act.put, List.setIfInBounds_toArray, List.set_cons_zero, List.set_cons_succ]
      obtain ⟨q, hq, hrd⟩ := hS
      obtain ⟨b, hb1, hb2, hb3⟩ := (hd { on := 5, ground := Ground.data } (by simp) (by kernel_rfl)).1
      obtain ⟨k, hk1, hk2⟩ := (hd { on := 7, ground := Ground.data } (by simp) (by kernel_rfl)).1
      try simp only at hb2 hk2
      have hkI : (k : Int) < 7 := by omega
      refine FreeUponS.pure (.pointer (some ⟨b, k, none⟩)) ?_ ⟨b, k, hb1, by omega, rfl, hb3⟩ ⟨q, by simpa using hq, hrd⟩
      simp only [hb2, hk2]
      clear hsel hd hq hrd hb2 hk2 hb3
      go_simp
    · intro y fp0 sel hsel hS hd
      try simp only [Act.put, List.setIfInBounds_toArray, List.set_cons_zero, List.set_cons_succ]
      obtain ⟨q, hq, hrd⟩ := hS
      obtain ⟨b, k, hb1, hk1, hb2, hb3⟩ := (hd { on := 8, ground := Ground.data } (by simp) (by kernel_rfl)).1
      try simp only at hb2
      have hc : y.cell? ⟨b, k, none⟩ = some (.int .i64 (tv strTab2 k)) := hb3.at (by simp [tv, List.getElem?_eq_getElem (show k < strTab2.length from hk1), itv])
      refine FreeUponS.pure (.int .i64 (tv strTab2 k)) ?_ ⟨_, getD_mem (P := isInt) (show k < strTab2.length from hk1) (by simp [strTab2, isInt]), rfl⟩ ⟨q, by simpa using hq, hrd⟩
      generalize tv strTab2 k = z at *
      simp only [hb2]
      clear hsel hd hq hrd hb2 hb3
      go_simp
    · intro y fp0 sel hsel hS hd
      try simp only [Act.put, List.setIfInBounds_toArray, List.set_cons_zero, List.set_cons_succ]
      obtain ⟨q, hq, hrd⟩ := hS
      obtain ⟨z, hz, hv⟩ := (hd { on := 4, ground := Ground.data } (by simp) (by kernel_rfl)).1
      try simp only at hv
      refine FreeUponS.pure (.int .i64 z) ?_ ⟨z, hz, rfl⟩ ⟨q, by simpa using hq, hrd⟩
      simp only [hv]
      clear hsel hd hq hrd
      go_simp
  · intro vals fp y hS hb hf
    obtain ⟨s, hs, e4⟩ : ∃ z : Int, isInt z ∧ vals 4 = .int .i64 z := (hf.1 4 (by omega) rfl).1
    obtain ⟨m, hm, e9⟩ : ∃ z : Int, isInt z ∧ vals 9 = .int .i64 z := (hf.1 9 (by omega) rfl).1
    obtain ⟨s', hs', e10⟩ : ∃ z : Int, isInt z ∧ vals 10 = .int .i64 z := (hf.1 10 (by omega) rfl).1
    have HBB := Lib.hid (show Below w.heap.size w y by rw [Hg.out]; exact Hb1.out.trans (hb.below (Nat.le_refl _) (by have := Hs1.out; omega)))
    have HS1 := Lib.hid hs'
    have HM1 := Lib.hid hm
    clear hf hS hb hs hs' hm
    simp only [List.take_succ_cons, List.take_zero, List.drop_succ_cons, List.drop_zero, putAll, Act.put, List.setIfInBounds_toArray, List.set_cons_zero, List.set_cons_succ, e4, e9, e10]
    clear e4 e9 e10
    go_wp2
    go_ret2
    exact ⟨s', m, HS1.out, HM1.out, rfl, HBB.out⟩
end Go.Proofs.Ytbceikhmoblacaa
