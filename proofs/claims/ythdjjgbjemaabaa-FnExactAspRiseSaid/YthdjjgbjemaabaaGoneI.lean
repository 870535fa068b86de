/-
  Helpers of AspGone and AspRise of the program. (Written by wip/tools/genbookg.py.)
-/
import Derived.Test.YthdjjgbjemaabaaGoneF
import Derived.Test.YthdjjgbjemaabaaFree
namespace Go.Proofs.Ythdjjgbjemaabaa
open Go.ChangeShapes Go.WideShapes Go.ChangeAt Go.RowKit
set_option linter.unusedVariables false
set_option linter.unusedSimpArgs false

set_option maxRecDepth 100000 in
set_option maxHeartbeats 1000000 in
theorem aspAt1_r (cs : List Value) (g : DAspGate) (p : Nat) (gate : Int) (w : World) (h : FAspGate w cs g) (hk : Blk w p [.int .i64 gate]) : Calls Try.prog 228 #[.agg cs.toArray, .pointer (some ⟨p, 0, none⟩)] w fun e w' => e = .returned (.bool (g.xGate == gate)) ∧ Below w.heap.size w w' := by
  obtain ⟨u2, u3, u4, rfl, -, -, -⟩ := h
  have HB := Lib.hid ((Below.refl w.heap.size w).alloc (Nat.le_refl _) (.cells #[.int .i64 g.xGate, .bool g.xUp, u2, u3, u4, .int .i64 g.xJam] 153))
  have HP := Lib.hid (hk.alloc (.cells #[.int .i64 g.xGate, .bool g.xUp, u2, u3, u4, .int .i64 g.xJam] 153))
  have K := Lib.hid (Blk.new (w := w) (b := w.heap.size) #[.int .i64 g.xGate, .bool g.xUp, u2, u3, u4, .int .i64 g.xJam] 153 rfl)
  clear hk
  have k0 := K.out.at (i := 0) rfl
  have p0 := HP.out.at (i := 0) rfl
  go_enter Try.func228, Try.ntmps228
  go_wp2
  go_ret
  exact ⟨ret_bool (by first | rfl | simp), HB.out⟩
set_option maxRecDepth 100000 in
set_option maxHeartbeats 1000000 in
theorem indexGate_r (v : Value) (gs : List DAspGate) (p : Nat) (gate : Int) (w : World) (hv : RdAspGateS w v gs) (hk : Blk w p [.int .i64 gate]) : Calls Try.prog 227 #[v, .func (.func 228) #[] #[.pointer (some ⟨p, 0, none⟩)]] w fun e w' => e = .returned (.int .i64 (atI gs gate)) ∧ Below w.heap.size w w' := by
  obtain ⟨A, c, rfl⟩ := RdS.slice hv
  have hc := RdS.cap hv
  have Hv := Lib.hid hv
  have HP := Lib.hid hk
  clear hv hk
  have Hat := Lib.hid (show ∀ j, j < gs.length → ∀ h : j < gs.length, gs[j].xGate = gate → (∀ i (hi : i < gs.length), i < j → ¬ gs[i].xGate = gate) → atI gs gate = (j : Int) from fun j _ hj h1 h2 => by simp [atI, atG_here hj h1 h2])
  have Hno := Lib.hid (show (∀ i (hi : i < gs.length), ¬ gs[i].xGate = gate) → atI gs gate = -1 from fun h => by simp [atI, atG_none h])
  generalize atI gs gate = res at *
  generalize hl : gs.length = n at Hv hc
  have Hl := Lib.hid hl
  clear hl
  go_enter Try.func227, Try.ntmps227
  go_wp2
  go_loopw [8] (fun i w1 => ∃ j : Nat, j ≤ n ∧ i = .int .i64 j ∧ Below w.heap.size w w1 ∧ ∀ i (hi : i < gs.length), i < j → ¬ gs[i].xGate = gate) (fun i _ => n - (intOf i).toNat)
  case atStart => exact ⟨0, by omega, rfl, Below.refl _ _, fun i _ h => by omega⟩
  case round =>
    obtain ⟨j, hj, rfl, hb, hu⟩ := hrel
    have Hu := Lib.hid hu
    have HB := Lib.hid hb
    clear hu hb
    by_cases hlt : j < n
    · obtain ⟨ad, cs, hkk, rfl, hcl, hca, hE⟩ := RdS.at_ (Hv.out.below HB.out) hlt
      have HE := Lib.hid hE
      obtain ⟨u2, u3, u4, rfl, -, -, -⟩ := hE
      have c0 := hca.c0
      have c1 := hca.ci 0 rfl
      have c2 := hca.ci 1 rfl
      have c3 := hca.ci 2 rfl
      have c4 := hca.ci 3 rfl
      have c5 := hca.ci 4 rfl
      clear hca hcl
      go_wp2_with fail
      refine (aspAt1_r _ gs[j] p gate _ HE.out (HP.out.keep HB.out)).mono ?_
      rintro e w2 ⟨rfl, b2⟩
      have HB := Lib.hid (HB.out.trans (b2.mono HB.out.size))
      clear b2 c0 c1 c2 c3 c4 c5
      by_cases hg : gs[j].xGate = gate
      · have Hr := Lib.hid (Hat.out j hkk hkk hg Hu.out)
        have hg' : (gs[j].xGate == gate) = true := by simpa using hg
        rw [hg']
        clear hg hg'
        go_wp2
        go_ret
        exact ⟨retI (by rw [Hr.out]), HB.out⟩
      · have Hg := Lib.hid hg
        have hg' : (gs[j].xGate == gate) = false := by simpa using hg
        rw [hg']
        clear hg hg'
        go_wp2
        refine ⟨⟨j + 1, by omega, by go_num, HB.out, fun i hi hij => ?_⟩, by simp [intOf]; omega⟩
        by_cases h : i = j
        · subst h; exact Hg.out
        · exact Hu.out i hi (by omega)
    · have Hr := Lib.hid (Hno.out (fun i hi => Hu.out i hi (by have := Hl.out; omega)))
      go_wp2
      go_ret
      exact ⟨retI (by rw [Hr.out]), HB.out⟩

set_option maxRecDepth 100000 in
set_option maxHeartbeats 4000000 in
theorem known_n (b : Nat) (u0 : Value) (gate : Int) (up : Bool) (A1 A2 A3 : Option Addr) (n1 c1 n2 c2 n3 c3 : Nat) (jam : Int) (says : Value) (w : World) (hk : Blk w b [u0, .int .i64 4, .int .i64 1, .int .i64 9, .int .i64 gate, .bool up, .slice A1 n1 c1, .int .i64 9, .int .i64 1, .int .i64 9, .slice A2 n2 c2, .int .i64 9, .int .i64 1, .int .i64 9, .slice A3 n3 c3, .int .i64 6, .int .i64 0, .int .i64 999, .int .i64 jam, says]) : Calls Try.prog 139 #[.pointer (some ⟨b, 0, none⟩)] w fun e w' => e = .returned (.agg #[.int .i64 gate, .bool up, .slice A1 n1 c1, .slice A2 n2 c2, .slice A3 n3 c3, .int .i64 jam]) ∧ Below w.heap.size w w' := by
  have K := Lib.hid (hk.alloc (.cells #[.int .i64 0, .bool false, .slice none 0 0, .slice none 0 0, .slice none 0 0, .int .i64 0] 153))
  have R := Lib.hid (Blk.new (w := w) (b := w.heap.size) #[.int .i64 0, .bool false, .slice none 0 0, .slice none 0 0, .slice none 0 0, .int .i64 0] 153 rfl)
  have HB := Lib.hid ((Below.refl w.heap.size w).alloc (Nat.le_refl _) (.cells #[.int .i64 0, .bool false, .slice none 0 0, .slice none 0 0, .slice none 0 0, .int .i64 0] 153))
  clear hk
  go_enter Try.func139, Try.ntmps139
  go_wp2_with fail
  generalize World.alloc w _ = w1 at *
  refine wp_region_free 28 (fun y => Below w1.heap.size w1 y) (fun vals i v y f => match i with | 0 => v = .pointer (some ⟨b, 0, none⟩) ∧ f = [] | 1 => v = .pointer (some ⟨b, 0, none⟩) ∧ f = [] | 2 => v = .pointer (some ⟨b, 4, none⟩) ∧ f = [] | 3 => v = .int .i64 gate ∧ f = [] | 4 => v = .pointer (some ⟨b, 0, none⟩) ∧ f = [] | 5 => v = .pointer (some ⟨b, 0, none⟩) ∧ f = [] | 6 => v = .pointer (some ⟨b, 5, none⟩) ∧ f = [] | 7 => v = .bool up ∧ f = [] | 8 => v = .pointer (some ⟨b, 0, none⟩) ∧ f = [] | 9 => v = .pointer (some ⟨b, 0, none⟩) ∧ f = [] | 10 => v = .pointer (some ⟨b, 6, none⟩) ∧ f = [] | 11 => v = .pointer (some ⟨b, 6, none⟩) ∧ f = [] | 12 => v = .slice A1 n1 c1 ∧ f = [] | 13 => v = .pointer (some ⟨b, 0, none⟩) ∧ f = [] | 14 => v = .pointer (some ⟨b, 0, none⟩) ∧ f = [] | 15 => v = .pointer (some ⟨b, 10, none⟩) ∧ f = [] | 16 => v = .pointer (some ⟨b, 10, none⟩) ∧ f = [] | 17 => v = .slice A2 n2 c2 ∧ f = [] | 18 => v = .pointer (some ⟨b, 0, none⟩) ∧ f = [] | 19 => v = .pointer (some ⟨b, 0, none⟩) ∧ f = [] | 20 => v = .pointer (some ⟨b, 14, none⟩) ∧ f = [] | 21 => v = .pointer (some ⟨b, 14, none⟩) ∧ f = [] | 22 => v = .slice A3 n3 c3 ∧ f = [] | 23 => v = .pointer (some ⟨b, 0, none⟩) ∧ f = [] | 24 => v = .pointer (some ⟨b, 0, none⟩) ∧ f = [] | 25 => v = .pointer (some ⟨b, 18, none⟩) ∧ f = [] | 26 => v = .int .i64 jam ∧ f = [] | 27 => v = .agg #[.int .i64 gate, .bool up, .slice A1 n1 c1, .slice A2 n2 c2, .slice A3 n3 c3, .int .i64 jam] ∧ f = [] | _ => False) (fun i => i) (by kernel_rfl) (by kernel_rfl) ?_ ?_ (Below.refl _ _).drew ?_ ?_
  · intro _ i v y y' f h hb
    match i, h with
    | 0, h => exact h
    | 1, h => exact h
    | 2, h => exact h
    | 3, h => exact h
    | 4, h => exact h
    | 5, h => exact h
    | 6, h => exact h
    | 7, h => exact h
    | 8, h => exact h
    | 9, h => exact h
    | 10, h => exact h
    | 11, h => exact h
    | 12, h => exact h
    | 13, h => exact h
    | 14, h => exact h
    | 15, h => exact h
    | 16, h => exact h
    | 17, h => exact h
    | 18, h => exact h
    | 19, h => exact h
    | 20, h => exact h
    | 21, h => exact h
    | 22, h => exact h
    | 23, h => exact h
    | 24, h => exact h
    | 25, h => exact h
    | 26, h => exact h
    | 27, h => exact h
  · intro vals vals' i o v y f ho hd h
    match i, h with
    | 0, h => exact h
    | 1, h => exact h
    | 2, h => exact h
    | 3, h => exact h
    | 4, h => exact h
    | 5, h => exact h
    | 6, h => exact h
    | 7, h => exact h
    | 8, h => exact h
    | 9, h => exact h
    | 10, h => exact h
    | 11, h => exact h
    | 12, h => exact h
    | 13, h => exact h
    | 14, h => exact h
    | 15, h => exact h
    | 16, h => exact h
    | 17, h => exact h
    | 18, h => exact h
    | 19, h => exact h
    | 20, h => exact h
    | 21, h => exact h
    | 22, h => exact h
    | 23, h => exact h
    | 24, h => exact h
    | 25, h => exact h
    | 26, h => exact h
    | 27, h => exact h
  · intro vals
    simp only [List.take_succ_cons, List.take_zero, Steps]
    refine ⟨?_, ?_, ?_, ?_, ?_, ?_, ?_, ?_, ?_, ?_, ?_, ?_, ?_, ?_, ?_, ?_, ?_, ?_, ?_, ?_, ?_, ?_, ?_, ?_, ?_, ?_, ?_, ?_, trivial⟩
    · intro y fp0 hS hd
      try simp only [Act.put, List.setIfInBounds_toArray, List.set_cons_zero, List.set_cons_succ]
      refine FreeUpon.pure (.pointer (some ⟨b, 0, none⟩)) ?_ ⟨rfl, rfl⟩ hS
      go_simp
    · intro y fp0 hS hd
      try simp only [Act.put, List.setIfInBounds_toArray, List.set_cons_zero, List.set_cons_succ]
      obtain ⟨⟨hp0, _⟩, _⟩ := hd { on := 0, ground := Ground.data } (by simp) (by kernel_rfl)
      simp only at hp0
      refine FreeUpon.pure (.pointer (some ⟨b, 0, none⟩)) ?_ ⟨rfl, rfl⟩ hS
      go_simp
    · intro y fp0 hS hd
      try simp only [Act.put, List.setIfInBounds_toArray, List.set_cons_zero, List.set_cons_succ]
      obtain ⟨⟨hp1, _⟩, _⟩ := hd { on := 1, ground := Ground.data } (by simp) (by kernel_rfl)
      simp only at hp1
      refine FreeUpon.pure (.pointer (some ⟨b, 4, none⟩)) ?_ ⟨rfl, rfl⟩ hS
      go_simp
    · intro y fp0 hS hd
      try simp only [Act.put, List.setIfInBounds_toArray, List.set_cons_zero, List.set_cons_succ]
      obtain ⟨⟨hp2, _⟩, _⟩ := hd { on := 2, ground := Ground.data } (by simp) (by kernel_rfl)
      simp only at hp2
      have kk := (K.out.keep hS).at (i := 4) rfl
      refine FreeUpon.pure (.int .i64 gate) ?_ ⟨rfl, rfl⟩ hS
      go_simp
    · intro y fp0 hS hd
      try simp only [Act.put, List.setIfInBounds_toArray, List.set_cons_zero, List.set_cons_succ]
      refine FreeUpon.pure (.pointer (some ⟨b, 0, none⟩)) ?_ ⟨rfl, rfl⟩ hS
      go_simp
    · intro y fp0 hS hd
      try simp only [Act.put, List.setIfInBounds_toArray, List.set_cons_zero, List.set_cons_succ]
      obtain ⟨⟨hp4, _⟩, _⟩ := hd { on := 4, ground := Ground.data } (by simp) (by kernel_rfl)
      simp only at hp4
      refine FreeUpon.pure (.pointer (some ⟨b, 0, none⟩)) ?_ ⟨rfl, rfl⟩ hS
      go_simp
    · intro y fp0 hS hd
      try simp only [Act.put, List.setIfInBounds_toArray, List.set_cons_zero, List.set_cons_succ]
      obtain ⟨⟨hp5, _⟩, _⟩ := hd { on := 5, ground := Ground.data } (by simp) (by kernel_rfl)
      simp only at hp5
      refine FreeUpon.pure (.pointer (some ⟨b, 5, none⟩)) ?_ ⟨rfl, rfl⟩ hS
      go_simp
    · intro y fp0 hS hd
      try simp only [Act.put, List.setIfInBounds_toArray, List.set_cons_zero, List.set_cons_succ]
      obtain ⟨⟨hp6, _⟩, _⟩ := hd { on := 6, ground := Ground.data } (by simp) (by kernel_rfl)
      simp only at hp6
      have kk := (K.out.keep hS).at (i := 5) rfl
      refine FreeUpon.pure (.bool up) ?_ ⟨rfl, rfl⟩ hS
      go_simp
    · intro y fp0 hS hd
      try simp only [Act.put, List.setIfInBounds_toArray, List.set_cons_zero, List.set_cons_succ]
      refine FreeUpon.pure (.pointer (some ⟨b, 0, none⟩)) ?_ ⟨rfl, rfl⟩ hS
      go_simp
    · intro y fp0 hS hd
      try simp only [Act.put, List.setIfInBounds_toArray, List.set_cons_zero, List.set_cons_succ]
      obtain ⟨⟨hp8, _⟩, _⟩ := hd { on := 8, ground := Ground.data } (by simp) (by kernel_rfl)
      simp only at hp8
      refine FreeUpon.pure (.pointer (some ⟨b, 0, none⟩)) ?_ ⟨rfl, rfl⟩ hS
      go_simp
    · intro y fp0 hS hd
      try simp only [Act.put, List.setIfInBounds_toArray, List.set_cons_zero, List.set_cons_succ]
      obtain ⟨⟨hp9, _⟩, _⟩ := hd { on := 9, ground := Ground.data } (by simp) (by kernel_rfl)
      simp only at hp9
      refine FreeUpon.pure (.pointer (some ⟨b, 6, none⟩)) ?_ ⟨rfl, rfl⟩ hS
      go_simp
    · intro y fp0 hS hd
      try simp only [Act.put, List.setIfInBounds_toArray, List.set_cons_zero, List.set_cons_succ]
      obtain ⟨⟨hp10, _⟩, _⟩ := hd { on := 10, ground := Ground.data } (by simp) (by kernel_rfl)
      simp only at hp10
      refine FreeUpon.pure (.pointer (some ⟨b, 6, none⟩)) ?_ ⟨rfl, rfl⟩ hS
      go_simp
    · intro y fp0 hS hd
      try simp only [Act.put, List.setIfInBounds_toArray, List.set_cons_zero, List.set_cons_succ]
      obtain ⟨⟨hp11, _⟩, _⟩ := hd { on := 11, ground := Ground.data } (by simp) (by kernel_rfl)
      simp only at hp11
      have kk := (K.out.keep hS).at (i := 6) rfl
      refine FreeUpon.pure (.slice A1 n1 c1) ?_ ⟨rfl, rfl⟩ hS
      go_simp
    · intro y fp0 hS hd
      try simp only [Act.put, List.setIfInBounds_toArray, List.set_cons_zero, List.set_cons_succ]
      refine FreeUpon.pure (.pointer (some ⟨b, 0, none⟩)) ?_ ⟨rfl, rfl⟩ hS
      go_simp
    · intro y fp0 hS hd
      try simp only [Act.put, List.setIfInBounds_toArray, List.set_cons_zero, List.set_cons_succ]
      obtain ⟨⟨hp13, _⟩, _⟩ := hd { on := 13, ground := Ground.data } (by simp) (by kernel_rfl)
      simp only at hp13
      refine FreeUpon.pure (.pointer (some ⟨b, 0, none⟩)) ?_ ⟨rfl, rfl⟩ hS
      go_simp
    · intro y fp0 hS hd
      try simp only [Act.put, List.setIfInBounds_toArray, List.set_cons_zero, List.set_cons_succ]
      obtain ⟨⟨hp14, _⟩, _⟩ := hd { on := 14, ground := Ground.data } (by simp) (by kernel_rfl)
      simp only at hp14
      refine FreeUpon.pure (.pointer (some ⟨b, 10, none⟩)) ?_ ⟨rfl, rfl⟩ hS
      go_simp
    · intro y fp0 hS hd
      try simp only [Act.put, List.setIfInBounds_toArray, List.set_cons_zero, List.set_cons_succ]
      obtain ⟨⟨hp15, _⟩, _⟩ := hd { on := 15, ground := Ground.data } (by simp) (by kernel_rfl)
      simp only at hp15
      refine FreeUpon.pure (.pointer (some ⟨b, 10, none⟩)) ?_ ⟨rfl, rfl⟩ hS
      go_simp
    · intro y fp0 hS hd
      try simp only [Act.put, List.setIfInBounds_toArray, List.set_cons_zero, List.set_cons_succ]
      obtain ⟨⟨hp16, _⟩, _⟩ := hd { on := 16, ground := Ground.data } (by simp) (by kernel_rfl)
      simp only at hp16
      have kk := (K.out.keep hS).at (i := 10) rfl
      refine FreeUpon.pure (.slice A2 n2 c2) ?_ ⟨rfl, rfl⟩ hS
      go_simp
    · intro y fp0 hS hd
      try simp only [Act.put, List.setIfInBounds_toArray, List.set_cons_zero, List.set_cons_succ]
      refine FreeUpon.pure (.pointer (some ⟨b, 0, none⟩)) ?_ ⟨rfl, rfl⟩ hS
      go_simp
    · intro y fp0 hS hd
      try simp only [Act.put, List.setIfInBounds_toArray, List.set_cons_zero, List.set_cons_succ]
      obtain ⟨⟨hp18, _⟩, _⟩ := hd { on := 18, ground := Ground.data } (by simp) (by kernel_rfl)
      simp only at hp18
      refine FreeUpon.pure (.pointer (some ⟨b, 0, none⟩)) ?_ ⟨rfl, rfl⟩ hS
      go_simp
    · intro y fp0 hS hd
      try simp only [Act.put, List.setIfInBounds_toArray, List.set_cons_zero, List.set_cons_succ]
      obtain ⟨⟨hp19, _⟩, _⟩ := hd { on := 19, ground := Ground.data } (by simp) (by kernel_rfl)
      simp only at hp19
      refine FreeUpon.pure (.pointer (some ⟨b, 14, none⟩)) ?_ ⟨rfl, rfl⟩ hS
      go_simp
    · intro y fp0 hS hd
      try simp only [Act.put, List.setIfInBounds_toArray, List.set_cons_zero, List.set_cons_succ]
      obtain ⟨⟨hp20, _⟩, _⟩ := hd { on := 20, ground := Ground.data } (by simp) (by kernel_rfl)
      simp only at hp20
      refine FreeUpon.pure (.pointer (some ⟨b, 14, none⟩)) ?_ ⟨rfl, rfl⟩ hS
      go_simp
    · intro y fp0 hS hd
      try simp only [Act.put, List.setIfInBounds_toArray, List.set_cons_zero, List.set_cons_succ]
      obtain ⟨⟨hp21, _⟩, _⟩ := hd { on := 21, ground := Ground.data } (by simp) (by kernel_rfl)
      simp only at hp21
      have kk := (K.out.keep hS).at (i := 14) rfl
      refine FreeUpon.pure (.slice A3 n3 c3) ?_ ⟨rfl, rfl⟩ hS
      go_simp
    · intro y fp0 hS hd
      try simp only [Act.put, List.setIfInBounds_toArray, List.set_cons_zero, List.set_cons_succ]
      refine FreeUpon.pure (.pointer (some ⟨b, 0, none⟩)) ?_ ⟨rfl, rfl⟩ hS
      go_simp
    · intro y fp0 hS hd
      try simp only [Act.put, List.setIfInBounds_toArray, List.set_cons_zero, List.set_cons_succ]
      obtain ⟨⟨hp23, _⟩, _⟩ := hd { on := 23, ground := Ground.data } (by simp) (by kernel_rfl)
      simp only at hp23
      refine FreeUpon.pure (.pointer (some ⟨b, 0, none⟩)) ?_ ⟨rfl, rfl⟩ hS
      go_simp
    · intro y fp0 hS hd
      try simp only [Act.put, List.setIfInBounds_toArray, List.set_cons_zero, List.set_cons_succ]
      obtain ⟨⟨hp24, _⟩, _⟩ := hd { on := 24, ground := Ground.data } (by simp) (by kernel_rfl)
      simp only at hp24
      refine FreeUpon.pure (.pointer (some ⟨b, 18, none⟩)) ?_ ⟨rfl, rfl⟩ hS
      go_simp
    · intro y fp0 hS hd
      try simp only [Act.put, List.setIfInBounds_toArray, List.set_cons_zero, List.set_cons_succ]
      obtain ⟨⟨hp25, _⟩, _⟩ := hd { on := 25, ground := Ground.data } (by simp) (by kernel_rfl)
      simp only at hp25
      have kk := (K.out.keep hS).at (i := 18) rfl
      refine FreeUpon.pure (.int .i64 jam) ?_ ⟨rfl, rfl⟩ hS
      go_simp
    · intro y fp0 hS hd
      try simp only [Act.put, List.setIfInBounds_toArray, List.set_cons_zero, List.set_cons_succ]
      obtain ⟨⟨hp3, _⟩, _⟩ := hd { on := 3, ground := Ground.data } (by simp) (by kernel_rfl)
      simp only at hp3
      obtain ⟨⟨hp7, _⟩, _⟩ := hd { on := 7, ground := Ground.data } (by simp) (by kernel_rfl)
      simp only at hp7
      obtain ⟨⟨hp12, _⟩, _⟩ := hd { on := 12, ground := Ground.data } (by simp) (by kernel_rfl)
      simp only at hp12
      obtain ⟨⟨hp17, _⟩, _⟩ := hd { on := 17, ground := Ground.data } (by simp) (by kernel_rfl)
      simp only at hp17
      obtain ⟨⟨hp22, _⟩, _⟩ := hd { on := 22, ground := Ground.data } (by simp) (by kernel_rfl)
      simp only at hp22
      obtain ⟨⟨hp26, _⟩, _⟩ := hd { on := 26, ground := Ground.data } (by simp) (by kernel_rfl)
      simp only at hp26
      refine FreeUpon.pure (.agg #[.int .i64 gate, .bool up, .slice A1 n1 c1, .slice A2 n2 c2, .slice A3 n3 c3, .int .i64 jam]) ?_ ⟨rfl, rfl⟩ hS
      go_simp
  · intro vals fp y hS hb hf
    have Hf := Lib.hid hf
    clear hf hb
    have e0 : vals 0 = .pointer (some ⟨b, 0, none⟩) := (Hf.out.1 0 (by omega) rfl).1.1
    have e1 : vals 1 = .pointer (some ⟨b, 0, none⟩) := (Hf.out.1 1 (by omega) rfl).1.1
    have e2 : vals 2 = .pointer (some ⟨b, 4, none⟩) := (Hf.out.1 2 (by omega) rfl).1.1
    have e3 : vals 3 = .int .i64 gate := (Hf.out.1 3 (by omega) rfl).1.1
    have e4 : vals 4 = .pointer (some ⟨b, 0, none⟩) := (Hf.out.1 4 (by omega) rfl).1.1
    have e5 : vals 5 = .pointer (some ⟨b, 0, none⟩) := (Hf.out.1 5 (by omega) rfl).1.1
    have e6 : vals 6 = .pointer (some ⟨b, 5, none⟩) := (Hf.out.1 6 (by omega) rfl).1.1
    have e7 : vals 7 = .bool up := (Hf.out.1 7 (by omega) rfl).1.1
    have e8 : vals 8 = .pointer (some ⟨b, 0, none⟩) := (Hf.out.1 8 (by omega) rfl).1.1
    have e9 : vals 9 = .pointer (some ⟨b, 0, none⟩) := (Hf.out.1 9 (by omega) rfl).1.1
    have e10 : vals 10 = .pointer (some ⟨b, 6, none⟩) := (Hf.out.1 10 (by omega) rfl).1.1
    have e11 : vals 11 = .pointer (some ⟨b, 6, none⟩) := (Hf.out.1 11 (by omega) rfl).1.1
    have e12 : vals 12 = .slice A1 n1 c1 := (Hf.out.1 12 (by omega) rfl).1.1
    have e13 : vals 13 = .pointer (some ⟨b, 0, none⟩) := (Hf.out.1 13 (by omega) rfl).1.1
    have e14 : vals 14 = .pointer (some ⟨b, 0, none⟩) := (Hf.out.1 14 (by omega) rfl).1.1
    have e15 : vals 15 = .pointer (some ⟨b, 10, none⟩) := (Hf.out.1 15 (by omega) rfl).1.1
    have e16 : vals 16 = .pointer (some ⟨b, 10, none⟩) := (Hf.out.1 16 (by omega) rfl).1.1
    have e17 : vals 17 = .slice A2 n2 c2 := (Hf.out.1 17 (by omega) rfl).1.1
    have e18 : vals 18 = .pointer (some ⟨b, 0, none⟩) := (Hf.out.1 18 (by omega) rfl).1.1
    have e19 : vals 19 = .pointer (some ⟨b, 0, none⟩) := (Hf.out.1 19 (by omega) rfl).1.1
    have e20 : vals 20 = .pointer (some ⟨b, 14, none⟩) := (Hf.out.1 20 (by omega) rfl).1.1
    have e21 : vals 21 = .pointer (some ⟨b, 14, none⟩) := (Hf.out.1 21 (by omega) rfl).1.1
    have e22 : vals 22 = .slice A3 n3 c3 := (Hf.out.1 22 (by omega) rfl).1.1
    have e23 : vals 23 = .pointer (some ⟨b, 0, none⟩) := (Hf.out.1 23 (by omega) rfl).1.1
    have e24 : vals 24 = .pointer (some ⟨b, 0, none⟩) := (Hf.out.1 24 (by omega) rfl).1.1
    have e25 : vals 25 = .pointer (some ⟨b, 18, none⟩) := (Hf.out.1 25 (by omega) rfl).1.1
    have e26 : vals 26 = .int .i64 jam := (Hf.out.1 26 (by omega) rfl).1.1
    have e27 : vals 27 = .agg #[.int .i64 gate, .bool up, .slice A1 n1 c1, .slice A2 n2 c2, .slice A3 n3 c3, .int .i64 jam] := (Hf.out.1 27 (by omega) rfl).1.1
    replace R := Lib.hid (R.out.keep hS)
    replace HB := Lib.hid (HB.out.trans (hS.mono HB.out.size))
    simp only [List.take_succ_cons, List.take_zero, List.drop_succ_cons, List.drop_zero, putAll, Act.put, List.setIfInBounds_toArray, List.set_cons_zero, List.set_cons_succ, e0, e1, e2, e3, e4, e5, e6, e7, e8, e9, e10, e11, e12, e13, e14, e15, e16, e17, e18, e19, e20, e21, e22, e23, e24, e25, e26, e27]
    clear hS Hf e0 e1 e2 e3 e4 e5 e6 e7 e8 e9 e10 e11 e12 e13 e14 e15 e16 e17 e18 e19 e20 e21 e22 e23 e24 e25 e26 e27
    go_wp2_with (refine wpList_store_blk rfl 153 (.tmp 2) (.tmp 30) rfl R.out _ rfl rfl rfl isz_AspGate (by kernel_rfl) ?_; intro w9 kk9 ff9 ss9)
    refine bodyPost_ret (v := .agg #[.int .i64 gate, .bool up, .slice A1 n1 c1, .slice A2 n2 c2, .slice A3 n3 c3, .int .i64 jam]) (results_rw1 rfl rfl (load_blk 153 kk9 _ Try.underlying153 rfl isz_AspGate)) rfl ?_
    exact ⟨rfl, below_frl1 HB.out (Nat.le_refl _) ff9 (Nat.le_refl _)⟩
end Go.Proofs.Ythdjjgbjemaabaa
