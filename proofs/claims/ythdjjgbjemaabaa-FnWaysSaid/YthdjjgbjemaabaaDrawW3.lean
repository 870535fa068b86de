/-
  The draw of a way with its ticks. (Written by wip/tools/gendraww3.py.)
-/
import Derived.Test.YthdjjgbjemaabaaDrawW2
namespace Go.Proofs.Ythdjjgbjemaabaa
open Go.ChangeShapes Go.WideShapes Go.ChangeAt Go.RowKit Go.Maps
set_option linter.unusedVariables false
set_option linter.unusedSimpArgs false

theorem RdB.setBool {w : World} {v : Value} {xs : List UInt8} (h : RdB w v xs) {p : Addr} {q : Bool} (hp : w.cell? p = some (.bool q)) (u : Value) : RdB (w.setCell p u) v xs := by
  obtain ⟨A, c, rfl, h1, hc⟩ := h
  refine ⟨A, c, rfl, h1, fun j x hx => ?_⟩
  obtain ⟨ad, rfl, hcell⟩ := hc j x hx
  refine ⟨ad, rfl, ?_⟩
  rw [World.cell?_setCell_other _ _ _ _ (fun e => by rw [← e, hp] at hcell; simp [byt] at hcell)]
  exact hcell
theorem Rdk.setV {B : Nat} {w : World} {g b i p : Nat} {xs : List UInt8} {c : Value} (h : Rdk B w g xs p) (hb : b ≠ g) (hc : w.cell? ⟨b, i, none⟩ = some c) (hcc : (∃ q, c = .int .i64 q) ∨ ∃ q, c = .bool q) (u : Value) : Rdk B (w.setCell ⟨b, i, none⟩ u) g xs p := by
  obtain ⟨v, h1, h2, h3, h4, h5⟩ := h
  refine ⟨v, by rw [Below.heap_setCell _ _ _ _ (by simpa using hb.symm)]; exact h1, ?_, h3, h4, h5⟩
  rcases hcc with ⟨q, rfl⟩ | ⟨q, rfl⟩
  · exact h2.setInt hc u
  · exact h2.setBool hc u
theorem Rdk.put6 {B : Nat} {w : World} {g b p : Nat} {xs : List UInt8} {x : DPthWay} (y : DPthWay) (h : Rdk B w g xs p) (hk : Blk w b (wayL x)) (hb : b ≠ g) : Rdk B (((((((w).setCell ⟨b, 0, none⟩ (.int .i64 y.xAddr)).setCell ⟨b, 1, none⟩ (.bool y.xOn)).setCell ⟨b, 2, none⟩ (.int .i64 y.xErrors)).setCell ⟨b, 3, none⟩ (.int .i64 y.xSrtt)).setCell ⟨b, 4, none⟩ (.int .i64 y.xVar)).setCell ⟨b, 5, none⟩ (.int .i64 y.xRto)) g xs p := by
  have k0 := hk
  have r1 := h.setV hb (k0.at (i := 0) rfl) (.inl ⟨_, rfl⟩) (.int .i64 y.xAddr)
  have k1 := k0.set (i := 0) (v := .int .i64 y.xAddr) (by simp [wayL])
  have r2 := r1.setV hb (k1.at (i := 1) rfl) (.inr ⟨_, rfl⟩) (.bool y.xOn)
  have k2 := k1.set (i := 1) (v := .bool y.xOn) (by simp [wayL])
  have r3 := r2.setV hb (k2.at (i := 2) rfl) (.inl ⟨_, rfl⟩) (.int .i64 y.xErrors)
  have k3 := k2.set (i := 2) (v := .int .i64 y.xErrors) (by simp [wayL])
  have r4 := r3.setV hb (k3.at (i := 3) rfl) (.inl ⟨_, rfl⟩) (.int .i64 y.xSrtt)
  have k4 := k3.set (i := 3) (v := .int .i64 y.xSrtt) (by simp [wayL])
  have r5 := r4.setV hb (k4.at (i := 4) rfl) (.inl ⟨_, rfl⟩) (.int .i64 y.xVar)
  have k5 := k4.set (i := 4) (v := .int .i64 y.xVar) (by simp [wayL])
  exact r5.setV hb (k5.at (i := 5) rfl) (.inl ⟨_, rfl⟩) (.int .i64 y.xRto)
theorem Blk.frx {w w' : World} {b lo hi : Nat} {vs : List Value} (h : Blk w b vs) (hf : Fr lo hi w w') (hb : b < lo ∨ hi ≤ b) : Blk w' b vs :=
  ⟨Nat.lt_of_lt_of_le h.lt hf.size, fun i => (World.cell?_of_block (a := ⟨b, i, none⟩) (hf.block b h.lt hb)).trans (h.cell i), fun o => (World.frozen?_of_block (a := ⟨b, o, none⟩) (hf.block b h.lt hb)).trans (h.frozen o)⟩
set_option maxRecDepth 100000 in
set_option maxHeartbeats 4000000 in
theorem drawPthHeard_any (v : Value) (xs : List UInt8) (w : World) (hv : RdB w v xs) :
    Calls Try.prog 15 #[v] w fun e w' => ∃ (x : DPthWay) (t : Int), e = .returned (.tuple #[.agg #[.int .i64 x.xAddr, .bool x.xOn, .int .i64 x.xErrors, .int .i64 x.xSrtt, .int .i64 x.xVar, .int .i64 x.xRto], .int .i64 t]) ∧ Below w.heap.size w w' := by
  have K := Lib.hid (Blk.new (w := w) (b := w.heap.size) #[.int .i64 0, .bool false, .int .i64 0, .int .i64 0, .int .i64 0, .int .i64 0] 24 rfl)
  have HV := Lib.hid (hv.alloc (.cells #[.int .i64 0, .bool false, .int .i64 0, .int .i64 0, .int .i64 0, .int .i64 0] 24))
  clear hv
  go_enter Try.func15, Try.ntmps15
  go_wp2_with fail
  refine (l30Open_any v xs _ HV.out).mono ?_
  rintro e w1 ⟨rfl, hr1, hb1, hs1⟩
  have HB := Lib.hid (((Below.refl w.heap.size w).alloc (Nat.le_refl _) (.cells #[.int .i64 0, .bool false, .int .i64 0, .int .i64 0, .int .i64 0, .int .i64 0] 24)).trans (hb1.mono (by simp)))
  replace K := Lib.hid (K.out.keep hb1)
  have HR := Lib.hid (show Rdk w1.heap.size w1 _ (xs.take 2000) 0 from Rdk.of hr1 (Nat.le_refl _))
  generalize hg : (World.alloc w _).heap.size = g at *
  have Hg := Lib.hid (show g = w.heap.size + 1 by rw [← hg]; simp)
  have HS := Lib.hid hs1
  clear hb1 hr1 hs1 hg HV
  generalize xs.take 2000 = ys at *
  go_wp2_with fail
  refine wp_region_freeS 10 w.heap.size (g + 1) (fun sel y => ∃ q, q ≤ 0 + ((if sel 1 = true then 17 else 0) + (if sel 3 = true then 1 else 0) + (if sel 6 = true then 1 else 0)) ∧ Rdk w1.heap.size y g ys q ∧ w1.heap.size ≤ y.heap.size ∧ ∃ z : DPthWay, Blk y w.heap.size (wayL z)) (fun _ i v y f => match i with | 0 => v = .pointer (some ⟨g, 0, none⟩) | 1 => ∃ z : DPthWay, v = .agg #[.int .i64 z.xAddr, .bool z.xOn, .int .i64 z.xErrors, .int .i64 z.xSrtt, .int .i64 z.xVar, .int .i64 z.xRto] | 2 => v = .pointer (some ⟨g, 0, none⟩) | 3 => ∃ k : Int, v = .int .i64 k | 4 => ∃ (b : Nat) (zs : List Int), g < b ∧ zs.length = 8 ∧ v = .slice (some ⟨b, 0, none⟩) 8 8 ∧ Blk y b (zs.map itv) | 5 => v = .pointer (some ⟨g, 0, none⟩) | 6 => ∃ k : Nat, k < 8 ∧ v = .int .i64 k | 7 => ∃ (b k : Nat) (zs : List Int), g < b ∧ k < 8 ∧ zs.length = 8 ∧ v = .pointer (some ⟨b, k, none⟩) ∧ Blk y b (zs.map itv) | 8 => ∃ z : Int, v = .int .i64 z | 9 => True | _ => False) (fun i => i) (by kernel_rfl) (by kernel_rfl) ?_ (fun _ _ _ _ _ _ _ _ _ h => h) ⟨0, by omega, HR.out.drewN 1, by show w1.heap.size ≤ w1.heap.size; omega, zWay, K.out.drew⟩ ?_ ?_
  · intro _ i v y y' f h hf
    match i, h with
    | 0, h => exact h
    | 1, h => exact h
    | 2, h => exact h
    | 3, h => exact h
    | 4, h => obtain ⟨b, zs, h1, h2, h3, h4⟩ := h; exact ⟨b, zs, h1, h2, h3, h4.frx hf (.inr h1)⟩
    | 5, h => exact h
    | 6, h => exact h
    | 7, h => obtain ⟨b, k, zs, h1, h2, h3, h4, h5⟩ := h; exact ⟨b, k, zs, h1, h2, h3, h4, h5.frx hf (.inr h1)⟩
    | 8, h => exact h
    | 9, h => exact h
  · intro vals
    simp only [List.take_succ_cons, List.take_zero, StepsS]
    refine ⟨?_, ?_, ?_, ?_, ?_, ?_, ?_, ?_, ?_, ?_, trivial⟩
    · intro y fp0 sel hsel hS hd
      try simp only [Act.put, List.setIfInBounds_toArray, List.set_cons_zero, List.set_cons_succ]
      obtain ⟨q, hq, hrd, hy, z0, hK⟩ := hS
      refine FreeUponS.pure (.pointer (some ⟨g, 0, none⟩)) ?_ rfl ⟨q, by simpa using hq, hrd, hy, z0, hK⟩
      clear hsel hd hq hrd hK
      go_simp
    · intro y fp0 sel hsel hS hd
      try simp only [Act.put, List.setIfInBounds_toArray, List.set_cons_zero, List.set_cons_succ]
      obtain ⟨q, hq, hrd, hy, z0, hK⟩ := hS
      have hv : vals 0 = .pointer (some ⟨g, 0, none⟩) := (hd { on := 0, ground := Ground.data } (by simp) (by kernel_rfl)).1
      have hqb : q + 40 ≤ 1099511627776 := by (repeat' split at hq) <;> omega
      refine FreeUponS.call (g := 95) (args := #[.pointer (some ⟨g, 0, none⟩)]) ?_ ((l32AnyWay_any g q w1.heap.size ys y hrd hqb hy).mono fun e y' ⟨z, q', he, hq', hr', hf'⟩ => ⟨_, [], he, ⟨z, rfl⟩, Nw.nil _ _, hf'.mono (by have := Hg.out; omega) (Nat.le_refl _), q', by simp [hsel] at hq ⊢; (repeat' split at hq) <;> simp_all <;> omega, hr', Nat.le_trans hy hf'.size, z0, hK.fr1 hf' (by have := Hg.out; omega)⟩)
      simp only [hv]
      go_simp
    · intro y fp0 sel hsel hS hd
      try simp only [Act.put, List.setIfInBounds_toArray, List.set_cons_zero, List.set_cons_succ]
      obtain ⟨q, hq, hrd, hy, z0, hK⟩ := hS
      refine FreeUponS.pure (.pointer (some ⟨g, 0, none⟩)) ?_ rfl ⟨q, by simpa using hq, hrd, hy, z0, hK⟩
      clear hsel hd hq hrd hK
      go_simp
    · intro y fp0 sel hsel hS hd
      try simp only [Act.put, List.setIfInBounds_toArray, List.set_cons_zero, List.set_cons_succ]
      obtain ⟨q, hq, hrd, hy, z0, hK⟩ := hS
      have hv : vals 2 = .pointer (some ⟨g, 0, none⟩) := (hd { on := 2, ground := Ground.data } (by simp) (by kernel_rfl)).1
      have hqb : q ≤ 1099511627776 := by (repeat' split at hq) <;> omega
      refine FreeUponS.call (g := 96) (args := #[.pointer (some ⟨g, 0, none⟩), .int .i64 16]) ?_ ((pick_k g q w1.heap.size 16 ys y hrd hqb (by omega)).mono fun e y' ⟨z, q', hz, he, hq', hr', hf', hs'⟩ => ⟨.int .i64 z, [], he, ⟨z, rfl⟩, Nw.nil _ _, hf'.mono (by have := Hg.out; omega) (Nat.le_refl _), q', by simp [hsel] at hq ⊢; (repeat' split at hq) <;> simp_all <;> omega, hr', Nat.le_trans hy hf'.size, z0, hK.fr1 hf' (by have := Hg.out; omega)⟩)
      simp only [hv]
      go_simp
    · intro y fp0 sel hsel hS hd
      try simp only [Act.put, List.setIfInBounds_toArray, List.set_cons_zero, List.set_cons_succ]
      obtain ⟨q, hq, hrd, hy, z0, hK⟩ := hS
      obtain ⟨k, hk⟩ := (hd { on := 3, ground := Ground.data } (by simp) (by kernel_rfl)).1
      try simp only at hk
      refine FreeUponS.val (u := .slice (some ⟨y.heap.size, 0, none⟩) 8 8) (w' := y.alloc (.cells ([0, 1, 3, 16, 17, -1, 9223372036854775807, k].map itv).toArray 3)) (f := [y.heap.size]) ?_ ⟨y.heap.size, [0, 1, 3, 16, 17, -1, 9223372036854775807, k], by have := hrd.rdr.lt; omega, rfl, rfl, Blk.new ([0, 1, 3, 16, 17, -1, 9223372036854775807, k].map itv).toArray _ rfl⟩ ⟨by simp, by simp⟩ ((Fr.refl _ _ _).alloc _) ⟨q, by simpa using hq, hrd.alloc _, by simp; omega, z0, hK.alloc _⟩
      clear hsel hd hq hrd hK
      simp only [itv, List.map_cons, List.map_nil, hk]
      go_simp
    · intro y fp0 sel hsel hS hd
      try simp only [Act.put, List.setIfInBounds_toArray, List.set_cons_zero, List.set_cons_succ]
      obtain ⟨q, hq, hrd, hy, z0, hK⟩ := hS
      refine FreeUponS.pure (.pointer (some ⟨g, 0, none⟩)) ?_ rfl ⟨q, by simpa using hq, hrd, hy, z0, hK⟩
      clear hsel hd hq hrd hK
      go_simp
    · intro y fp0 sel hsel hS hd
      try simp only [Act.put, List.setIfInBounds_toArray, List.set_cons_zero, List.set_cons_succ]
      obtain ⟨q, hq, hrd, hy, z0, hK⟩ := hS
      have hv : vals 5 = .pointer (some ⟨g, 0, none⟩) := (hd { on := 5, ground := Ground.data } (by simp) (by kernel_rfl)).1
      have hqb : q ≤ 1099511627776 := by (repeat' split at hq) <;> omega
      refine FreeUponS.call (g := 96) (args := #[.pointer (some ⟨g, 0, none⟩), .int .i64 8]) ?_ ((pick_k g q w1.heap.size 8 ys y hrd hqb (by omega)).mono fun e y' ⟨z, q', hz, he, hq', hr', hf', hs'⟩ => ⟨.int .i64 z, [], he, ⟨z.toNat, by omega, by rw [Int.toNat_of_nonneg hz.1]⟩, Nw.nil _ _, hf'.mono (by have := Hg.out; omega) (Nat.le_refl _), q', by simp [hsel] at hq ⊢; (repeat' split at hq) <;> simp_all <;> omega, hr', Nat.le_trans hy hf'.size, z0, hK.fr1 hf' (by have := Hg.out; omega)⟩)
      simp only [hv]
      go_simp
    · intro y fp0 sel hsel hS hd
      try simp only [Act.put, List.setIfInBounds_toArray, List.set_cons_zero, List.set_cons_succ]
      obtain ⟨q, hq, hrd, hy, z0, hK⟩ := hS
      obtain ⟨b, zs, hb1, hb0, hb2, hb3⟩ := (hd { on := 4, ground := Ground.data } (by simp) (by kernel_rfl)).1
      obtain ⟨k, hk1, hk2⟩ := (hd { on := 6, ground := Ground.data } (by simp) (by kernel_rfl)).1
      try simp only at hb2 hk2
      have hkI : (k : Int) < 8 := by omega
      refine FreeUponS.pure (.pointer (some ⟨b, k, none⟩)) ?_ ⟨b, k, zs, hb1, hk1, hb0, rfl, hb3⟩ ⟨q, by simpa using hq, hrd, hy, z0, hK⟩
      simp only [hb2, hk2]
      clear hsel hd hq hrd hK hb2 hk2 hb3
      go_simp
    · intro y fp0 sel hsel hS hd
      try simp only [Act.put, List.setIfInBounds_toArray, List.set_cons_zero, List.set_cons_succ]
      obtain ⟨q, hq, hrd, hy, z0, hK⟩ := hS
      obtain ⟨b, k, zs, hb1, hk1, hb0, hb2, hb3⟩ := (hd { on := 7, ground := Ground.data } (by simp) (by kernel_rfl)).1
      try simp only at hb2
      have hc : y.cell? ⟨b, k, none⟩ = some (.int .i64 (tv zs k)) := hb3.at (by simp [tv, List.getElem?_eq_getElem (show k < zs.length by omega), itv])
      refine FreeUponS.pure (.int .i64 (tv zs k)) ?_ ⟨_, rfl⟩ ⟨q, by simpa using hq, hrd, hy, z0, hK⟩
      generalize tv zs k = z at *
      simp only [hb2]
      clear hsel hd hq hrd hK hb2 hb3
      go_simp
    · intro y fp0 sel hsel hS hd
      try simp only [Act.put, List.setIfInBounds_toArray, List.set_cons_zero, List.set_cons_succ]
      obtain ⟨q, hq, hrd, hy, z0, hK⟩ := hS
      obtain ⟨z, hz⟩ : ∃ z : DPthWay, vals 1 = .agg #[.int .i64 z.xAddr, .bool z.xOn, .int .i64 z.xErrors, .int .i64 z.xSrtt, .int .i64 z.xVar, .int .i64 z.xRto] := (hd { on := 1, ground := Ground.data } (by simp) (by kernel_rfl)).1
      refine FreeUponS.skip (w' := (((((((y).setCell ⟨w.heap.size, 0, none⟩ (.int .i64 z.xAddr)).setCell ⟨w.heap.size, 1, none⟩ (.bool z.xOn)).setCell ⟨w.heap.size, 2, none⟩ (.int .i64 z.xErrors)).setCell ⟨w.heap.size, 3, none⟩ (.int .i64 z.xSrtt)).setCell ⟨w.heap.size, 4, none⟩ (.int .i64 z.xVar)).setCell ⟨w.heap.size, 5, none⟩ (.int .i64 z.xRto))) (f := []) ?_ trivial (Nw.nil _ _) ((Fr.put6 _ _ _ _ _ _).mono (Nat.le_refl _) (by have := Hg.out; omega)) ⟨q, by simpa using hq, hrd.put6 z hK (by have := Hg.out; omega), Nat.le_trans hy (Fr.put6 (b := w.heap.size) _ _ _ _ _ _).size, z, Blk.put6 z hK⟩
      have z1 := hK.frozen
      have kc0 := hK.at (i := 0) rfl
      have kc1 := hK.at (i := 1) rfl
      have kc2 := hK.at (i := 2) rfl
      have kc3 := hK.at (i := 3) rfl
      have kc4 := hK.at (i := 4) rfl
      have kc5 := hK.at (i := 5) rfl
      clear hsel hd hq hrd hK
      simp only [hz]
      go_simp
  · intro vals fp y hS hb hf
    obtain ⟨t, e8⟩ : ∃ z : Int, vals 8 = .int .i64 z := (hf.1 8 (by omega) rfl).1
    obtain ⟨q, hq, hrd, hy, z, hK⟩ := hS
    replace HB := Lib.hid (HB.out.trans (hb.below (Nat.le_refl _) HB.out.size))
    clear hf hb hrd hq
    simp only [List.take_succ_cons, List.take_zero, List.drop_succ_cons, List.drop_zero, putAll, Act.put, List.setIfInBounds_toArray, List.set_cons_zero, List.set_cons_succ, e8]
    clear e8
    have rc0 := hK.at (i := 0) rfl
    have rc1 := hK.at (i := 1) rfl
    have rc2 := hK.at (i := 2) rfl
    have rc3 := hK.at (i := 3) rfl
    have rc4 := hK.at (i := 4) rfl
    have rc5 := hK.at (i := 5) rfl
    clear hK
    go_wp2
    refine bodyPost_ret (v := .tuple #[.agg #[.int .i64 z.xAddr, .bool z.xOn, .int .i64 z.xErrors, .int .i64 z.xSrtt, .int .i64 z.xVar, .int .i64 z.xRto], .int .i64 t]) (by simp [results, Try.results15, go_sem, rc0, rc1, rc2, rc3, rc4, rc5]) rfl ?_
    exact ⟨z, t, rfl, HB.out⟩
end Go.Proofs.Ythdjjgbjemaabaa
