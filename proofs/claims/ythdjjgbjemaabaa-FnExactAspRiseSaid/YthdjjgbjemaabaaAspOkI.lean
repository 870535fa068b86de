/-
  Is a server's book ok? The program's contract: it looks at the book through a talk in new memory. (Written by wip/tools/genaspok.py.)
-/
import Derived.Test.YthdjjgbjemaabaaAspOkS
import Derived.Test.YthdjjgbjemaabaaFree
import Derived.StillTailTactics
import Derived.BigQuiet
namespace Go.Proofs.Ythdjjgbjemaabaa
open Go.ChangeShapes Go.WideShapes Go.ChangeAt Go.RowKit
set_option linter.unusedVariables false
set_option linter.unusedSimpArgs false


set_option maxRecDepth 100000 in
set_option maxHeartbeats 2000000 in
theorem aspSetFits_r (v : Value) (xs : List Int) (room lo hi : Int) (w : World) (hv : RdI w v xs) : Calls Try.prog 222 #[.agg #[v, .int .i64 room, .int .i64 lo, .int .i64 hi]] w fun e w' => e = .returned (.bool (decide ((xs.length : Int) ≤ room) && upF lo hi xs)) ∧ Below w.heap.size w w' := by
  have Hv := Lib.hid hv
  obtain ⟨A, c, rfl⟩ := hv.slice
  have hc := hv.cap
  clear hv
  have HB := Lib.hid ((Below.refl w.heap.size w).alloc (Nat.le_refl _) (.cells #[.slice A xs.length c, .int .i64 room, .int .i64 lo, .int .i64 hi] 175))
  generalize hn : xs.length = n at *
  clear hn
  by_cases hr : (n : Int) ≤ room
  · go_enter Try.func222, Try.ntmps222
    go_wp2_with fail
    refine (orderFits_r _ xs _ _ _ (Hv.out.below HB.out)).mono ?_
    rintro e w1 ⟨rfl, b1⟩
    have HB := Lib.hid (HB.out.trans (b1.mono HB.out.size))
    clear b1
    go_wp2
    go_ret
    exact ⟨ret_bool (by rw [decide_eq_true hr]; rfl), HB.out⟩
  · go_enter Try.func222, Try.ntmps222
    go_wp2
    go_ret
    exact ⟨ret_bool (by rw [decide_eq_false (by omega)]; rfl), HB.out⟩
set_option maxRecDepth 100000 in
set_option maxHeartbeats 2000000 in
theorem aspWishes_n (v : Value) (xs : List Int) (w : World) (hv : RdI w v xs) (hn : xs.length ≤ 1048576) : Calls Try.prog 134 #[v] w fun e w' => ∃ u f, e = .returned (.agg #[u, .int .i64 4, .int .i64 1, .int .i64 9]) ∧ OwIn w' f u xs ∧ Nw w.heap.size w'.heap.size f ∧ Below w.heap.size w w' := by
  have Hv := Lib.hid hv
  have K := Lib.hid (Blk.new (w := w) (b := w.heap.size) #[.slice none 0 0, .int .i64 0, .int .i64 0, .int .i64 0] 175 rfl)
  have HB := Lib.hid ((Below.refl w.heap.size w).alloc (Nat.le_refl _) (.cells #[.slice none 0 0, .int .i64 0, .int .i64 0, .int .i64 0] 175))
  clear hv
  go_enter Try.func134, Try.ntmps134
  go_wp2_with fail
  refine (cloneInts_n _ xs _ (Hv.out.below HB.out) hn).mono ?_
  rintro e w1 ⟨u, f, rfl, ho, hnw, b1⟩
  obtain ⟨A', c', rfl⟩ := ho.rd.slice
  have K := Lib.hid (K.out.keep b1)
  have HB := Lib.hid (HB.out.trans (b1.mono HB.out.size))
  have Ho := Lib.hid ho
  have Hn := Lib.hid (hnw.mono (lo' := w.heap.size + 1) (by simp) (Nat.le_refl _))
  clear ho hnw b1
  have k0 := K.out.at (i := 0) rfl
  have k1 := K.out.at (i := 1) rfl
  have k2 := K.out.at (i := 2) rfl
  have k3 := K.out.at (i := 3) rfl
  have z0 := K.out.frozen 0
  have z1 := K.out.frozen 1
  have z2 := K.out.frozen 2
  have z3 := K.out.frozen 3
  go_wp2
  refine bodyPost_ret (v := .agg #[.slice A' xs.length c', .int .i64 4, .int .i64 1, .int .i64 9]) (by simp [results, Try.results134, go_sem, k0, k1, k2, k3]) rfl ⟨_, f, rfl, ?_, ?_, ?_⟩
  · have G0 := Lib.hid (show w.heap.size ∉ f from fun h => by have := (Hn.out.2 _ h).1; omega)
    repeat first | with_reducible exact Ho.out | with_reducible refine OwIn.set ?_ G0.out
  · exact Hn.out.mono (by omega) (by simp [size_set])
  · have hb := HB.out
    repeat first | with_reducible exact Below.refl _ _ | with_reducible assumption | with_reducible refine Below.setCell ?_ (by simp <;> omega) _ | with_reducible refine Below.alloc ?_ (by simp <;> omega) _ | with_reducible refine Below.drew ?_
set_option maxRecDepth 100000 in
set_option maxHeartbeats 2000000 in
theorem aspRanges_n (v : Value) (xs : List Int) (w : World) (hv : RdI w v xs) (hn : xs.length ≤ 1048576) : Calls Try.prog 229 #[v] w fun e w' => ∃ u f, e = .returned (.agg #[u, .int .i64 9, .int .i64 1, .int .i64 9]) ∧ OwIn w' f u xs ∧ Nw w.heap.size w'.heap.size f ∧ Below w.heap.size w w' := by
  have Hv := Lib.hid hv
  have K := Lib.hid (Blk.new (w := w) (b := w.heap.size) #[.slice none 0 0, .int .i64 0, .int .i64 0, .int .i64 0] 175 rfl)
  have HB := Lib.hid ((Below.refl w.heap.size w).alloc (Nat.le_refl _) (.cells #[.slice none 0 0, .int .i64 0, .int .i64 0, .int .i64 0] 175))
  clear hv
  go_enter Try.func229, Try.ntmps229
  go_wp2_with fail
  refine (cloneInts_n _ xs _ (Hv.out.below HB.out) hn).mono ?_
  rintro e w1 ⟨u, f, rfl, ho, hnw, b1⟩
  obtain ⟨A', c', rfl⟩ := ho.rd.slice
  have K := Lib.hid (K.out.keep b1)
  have HB := Lib.hid (HB.out.trans (b1.mono HB.out.size))
  have Ho := Lib.hid ho
  have Hn := Lib.hid (hnw.mono (lo' := w.heap.size + 1) (by simp) (Nat.le_refl _))
  clear ho hnw b1
  have k0 := K.out.at (i := 0) rfl
  have k1 := K.out.at (i := 1) rfl
  have k2 := K.out.at (i := 2) rfl
  have k3 := K.out.at (i := 3) rfl
  have z0 := K.out.frozen 0
  have z1 := K.out.frozen 1
  have z2 := K.out.frozen 2
  have z3 := K.out.frozen 3
  go_wp2
  refine bodyPost_ret (v := .agg #[.slice A' xs.length c', .int .i64 9, .int .i64 1, .int .i64 9]) (by simp [results, Try.results229, go_sem, k0, k1, k2, k3]) rfl ⟨_, f, rfl, ?_, ?_, ?_⟩
  · have G0 := Lib.hid (show w.heap.size ∉ f from fun h => by have := (Hn.out.2 _ h).1; omega)
    repeat first | with_reducible exact Ho.out | with_reducible refine OwIn.set ?_ G0.out
  · exact Hn.out.mono (by omega) (by simp [size_set])
  · have hb := HB.out
    repeat first | with_reducible exact Below.refl _ _ | with_reducible assumption | with_reducible refine Below.setCell ?_ (by simp <;> omega) _ | with_reducible refine Below.alloc ?_ (by simp <;> omega) _ | with_reducible refine Below.drew ?_
set_option maxRecDepth 100000 in
set_option maxHeartbeats 2000000 in
theorem aspOffs_n (v : Value) (xs : List Int) (w : World) (hv : RdI w v xs) (hn : xs.length ≤ 1048576) : Calls Try.prog 230 #[v] w fun e w' => ∃ u f, e = .returned (.agg #[u, .int .i64 6, .int .i64 0, .int .i64 999]) ∧ OwIn w' f u xs ∧ Nw w.heap.size w'.heap.size f ∧ Below w.heap.size w w' := by
  have Hv := Lib.hid hv
  have K := Lib.hid (Blk.new (w := w) (b := w.heap.size) #[.slice none 0 0, .int .i64 0, .int .i64 0, .int .i64 0] 175 rfl)
  have HB := Lib.hid ((Below.refl w.heap.size w).alloc (Nat.le_refl _) (.cells #[.slice none 0 0, .int .i64 0, .int .i64 0, .int .i64 0] 175))
  clear hv
  go_enter Try.func230, Try.ntmps230
  go_wp2_with fail
  refine (cloneInts_n _ xs _ (Hv.out.below HB.out) hn).mono ?_
  rintro e w1 ⟨u, f, rfl, ho, hnw, b1⟩
  obtain ⟨A', c', rfl⟩ := ho.rd.slice
  have K := Lib.hid (K.out.keep b1)
  have HB := Lib.hid (HB.out.trans (b1.mono HB.out.size))
  have Ho := Lib.hid ho
  have Hn := Lib.hid (hnw.mono (lo' := w.heap.size + 1) (by simp) (Nat.le_refl _))
  clear ho hnw b1
  have k0 := K.out.at (i := 0) rfl
  have k1 := K.out.at (i := 1) rfl
  have k2 := K.out.at (i := 2) rfl
  have k3 := K.out.at (i := 3) rfl
  have z0 := K.out.frozen 0
  have z1 := K.out.frozen 1
  have z2 := K.out.frozen 2
  have z3 := K.out.frozen 3
  go_wp2
  refine bodyPost_ret (v := .agg #[.slice A' xs.length c', .int .i64 6, .int .i64 0, .int .i64 999]) (by simp [results, Try.results230, go_sem, k0, k1, k2, k3]) rfl ⟨_, f, rfl, ?_, ?_, ?_⟩
  · have G0 := Lib.hid (show w.heap.size ∉ f from fun h => by have := (Hn.out.2 _ h).1; omega)
    repeat first | with_reducible exact Ho.out | with_reducible refine OwIn.set ?_ G0.out
  · exact Hn.out.mono (by omega) (by simp [size_set])
  · have hb := HB.out
    repeat first | with_reducible exact Below.refl _ _ | with_reducible assumption | with_reducible refine Below.setCell ?_ (by simp <;> omega) _ | with_reducible refine Below.alloc ?_ (by simp <;> omega) _ | with_reducible refine Below.drew ?_
def zGate (g : DAspGate) : Nat := g.xActive.length + (g.xAsked.length + g.xOff.length)
set_option maxRecDepth 100000 in
set_option maxHeartbeats 8000000 in
theorem aspTalkTo_n (v0 v1 : Value) (x : DAspBook) (j : Nat) (w : World) (h0 : RdI w v0 x.xWish) (h1 : RdAspGateS w v1 x.xGates) (hj : j < x.xGates.length) (hz : x.xWish.length ≤ 1048576 ∧ x.xGates[j].xActive.length ≤ 1048576 ∧ x.xGates[j].xAsked.length ≤ 1048576 ∧ x.xGates[j].xOff.length ≤ 1048576) :
    Calls Try.prog 137 #[.agg #[v0, v1], .int .i64 j] w fun e w' => ∃ b u0 u1 u2 u3 f0 f1 f2 f3, e = .returned (.pointer (some ⟨b, 0, none⟩)) ∧ Blk w' b [u0, .int .i64 4, .int .i64 1, .int .i64 9, .int .i64 x.xGates[j].xGate, .bool x.xGates[j].xUp, u1, .int .i64 9, .int .i64 1, .int .i64 9, u2, .int .i64 9, .int .i64 1, .int .i64 9, u3, .int .i64 6, .int .i64 0, .int .i64 999, .int .i64 x.xGates[j].xJam, .slice none 0 0] ∧ OwIn w' f0 u0 x.xWish ∧ OwIn w' f1 u1 x.xGates[j].xActive ∧ OwIn w' f2 u2 x.xGates[j].xAsked ∧ OwIn w' f3 u3 x.xGates[j].xOff ∧ Nw w.heap.size w'.heap.size (b :: (f0 ++ (f1 ++ (f2 ++ f3)))) ∧ Below w.heap.size w w' := by
  obtain ⟨A, a, rfl⟩ := h0.slice
  obtain ⟨B, c, rfl⟩ := RdS.slice h1
  obtain ⟨ad, cs, hk, rfl, hcl, hca, hE⟩ := RdS.at_ h1 hj
  obtain ⟨v2, v3, v4, rfl, g2, g3, g4⟩ := hE
  obtain ⟨B2, q2, rfl⟩ := g2.slice
  obtain ⟨B3, q3, rfl⟩ := g3.slice
  obtain ⟨B4, q4, rfl⟩ := g4.slice
  have H0 := Lib.hid h0
  have H2 := Lib.hid g2
  have H3 := Lib.hid g3
  have H4 := Lib.hid g4
  have Hz := Lib.hid hz
  have hcb := RdS.cap h1
  clear h0 h1 g2 g3 g4 hcl hz
  generalize hv0 : Value.slice A x.xWish.length a = v0 at *
  have b0 := (Below.refl w.heap.size w).alloc (Nat.le_refl _) (.cells #[v0, .slice (some ad) x.xGates.length c] 38)
  have hca1 := hca.below b0
  have c0 := hca1.c0
  have c1 := hca1.ci 0 rfl
  have c2 := hca1.ci 1 rfl
  have c3 := hca1.ci 2 rfl
  have c4 := hca1.ci 3 rfl
  have c5 := hca1.ci 4 rfl
  clear hca b0 hca1
  have hjn : (j : Int) < x.xGates.length := by omega
  go_enter Try.func137, Try.ntmps137
  go_wp2_with fail
  generalize hw2 : World.alloc (World.alloc w _) _ = w2
  have K := Lib.hid (show Blk w2 w.heap.size [v0, .slice (some ad) x.xGates.length c] by rw [← hw2]; exact (Blk.new _ _ rfl).alloc _)
  have R := Lib.hid (show Blk w2 (w.heap.size + 1) [.int .i64 x.xGates[j].xGate, .bool x.xGates[j].xUp, .slice B2 x.xGates[j].xActive.length q2, .slice B3 x.xGates[j].xAsked.length q3, .slice B4 x.xGates[j].xOff.length q4, .int .i64 x.xGates[j].xJam] by rw [← hw2]; exact Blk.new _ _ (by simp))
  have HB := Lib.hid (show Below w.heap.size w w2 by rw [← hw2]; exact ((Below.refl _ _).alloc (Nat.le_refl _) _).alloc (by simp) _)
  have Hsz := Lib.hid (show w.heap.size + 2 = w2.heap.size by rw [← hw2]; simp)
  replace H0 := Lib.hid (H0.out.below HB.out)
  replace H2 := Lib.hid (H2.out.below HB.out)
  replace H3 := Lib.hid (H3.out.below HB.out)
  replace H4 := Lib.hid (H4.out.below HB.out)
  clear hw2 c0 c1 c2 c3 c4 c5
  refine wp_region_free 18 (fun y => Blk y w.heap.size [v0, .slice (some ad) x.xGates.length c] ∧ Blk y (w.heap.size + 1) [.int .i64 x.xGates[j].xGate, .bool x.xGates[j].xUp, .slice B2 x.xGates[j].xActive.length q2, .slice B3 x.xGates[j].xAsked.length q3, .slice B4 x.xGates[j].xOff.length q4, .int .i64 x.xGates[j].xJam] ∧ Below w2.heap.size w2 y) (fun _ i v y f => match i with | 0 => v = .pointer (some ⟨w.heap.size, 0, none⟩) ∧ f = [] | 1 => v = v0 ∧ f = [] | 2 => ∃ u, v = .agg #[u, .int .i64 4, .int .i64 1, .int .i64 9] ∧ OwIn y f u x.xWish | 3 => v = .pointer (some ⟨w.heap.size + 1, 0, none⟩) ∧ f = [] | 4 => v = .int .i64 x.xGates[j].xGate ∧ f = [] | 5 => v = .pointer (some ⟨w.heap.size + 1, 1, none⟩) ∧ f = [] | 6 => v = .bool x.xGates[j].xUp ∧ f = [] | 7 => v = .pointer (some ⟨w.heap.size + 1, 5, none⟩) ∧ f = [] | 8 => v = .int .i64 x.xGates[j].xJam ∧ f = [] | 9 => v = .pointer (some ⟨w.heap.size + 1, 2, none⟩) ∧ f = [] | 10 => v = .slice B2 x.xGates[j].xActive.length q2 ∧ f = [] | 11 => ∃ u, v = .agg #[u, .int .i64 9, .int .i64 1, .int .i64 9] ∧ OwIn y f u x.xGates[j].xActive | 12 => v = .pointer (some ⟨w.heap.size + 1, 3, none⟩) ∧ f = [] | 13 => v = .slice B3 x.xGates[j].xAsked.length q3 ∧ f = [] | 14 => ∃ u, v = .agg #[u, .int .i64 9, .int .i64 1, .int .i64 9] ∧ OwIn y f u x.xGates[j].xAsked | 15 => v = .pointer (some ⟨w.heap.size + 1, 4, none⟩) ∧ f = [] | 16 => v = .slice B4 x.xGates[j].xOff.length q4 ∧ f = [] | 17 => ∃ u, v = .agg #[u, .int .i64 6, .int .i64 0, .int .i64 999] ∧ OwIn y f u x.xGates[j].xOff | _ => False) (fun i => i) (by kernel_rfl) (by kernel_rfl) ?_ (fun _ _ _ _ _ _ _ _ _ h => h) (⟨K.out.drew, R.out.drew, (Below.refl _ _).drew⟩) ?_ ?_
  · intro _ i v y y' f h hb
    match i, h with
    | 0, h => exact h
    | 1, h => exact h
    | 2, h => obtain ⟨u, h1, h2⟩ := h; exact ⟨u, h1, OwIn.below h2 hb⟩
    | 3, h => exact h
    | 4, h => exact h
    | 5, h => exact h
    | 6, h => exact h
    | 7, h => exact h
    | 8, h => exact h
    | 9, h => exact h
    | 10, h => exact h
    | 11, h => obtain ⟨u, h1, h2⟩ := h; exact ⟨u, h1, OwIn.below h2 hb⟩
    | 12, h => exact h
    | 13, h => exact h
    | 14, h => obtain ⟨u, h1, h2⟩ := h; exact ⟨u, h1, OwIn.below h2 hb⟩
    | 15, h => exact h
    | 16, h => exact h
    | 17, h => obtain ⟨u, h1, h2⟩ := h; exact ⟨u, h1, OwIn.below h2 hb⟩
  · intro vals
    simp only [List.take_succ_cons, List.take_zero, Steps]
    refine ⟨?_, ?_, ?_, ?_, ?_, ?_, ?_, ?_, ?_, ?_, ?_, ?_, ?_, ?_, ?_, ?_, ?_, ?_, trivial⟩
    · intro y fp0 hS hd
      try simp only [Act.put, List.setIfInBounds_toArray, List.set_cons_zero, List.set_cons_succ]
      refine FreeUpon.pure (.pointer (some ⟨w.heap.size, 0, none⟩)) ?_ ⟨rfl, rfl⟩ hS
      go_simp
    · intro y fp0 hS hd
      try simp only [Act.put, List.setIfInBounds_toArray, List.set_cons_zero, List.set_cons_succ]
      obtain ⟨⟨hp, _⟩, _⟩ := hd { on := 0, ground := Ground.data } (by simp) (by kernel_rfl)
      have hcell := hS.1.at (i := 0) rfl
      refine FreeUpon.pure (v0) ?_ ⟨rfl, rfl⟩ hS
      go_simp
      all_goals simp [hp, hcell]
    · intro y fp0 hS hd
      try simp only [Act.put, List.setIfInBounds_toArray, List.set_cons_zero, List.set_cons_succ]
      obtain ⟨⟨hp, _⟩, _⟩ := hd { on := 1, ground := Ground.data } (by simp) (by kernel_rfl)
      refine FreeUpon.call (g := 134) (args := #[v0]) ?_ ((aspWishes_n _ x.xWish y (H0.out.below hS.2.2) (by have := Hz.out; omega)).mono fun e y' h => ?_)
      · go_simp
        all_goals simp [hp]
      · obtain ⟨u, f, he, ho, hn, hb⟩ := h
        exact ⟨_, f, he, ⟨u, rfl, ho⟩, hn, hb, hS.1.keep hb, hS.2.1.keep hb, belowOn hS.2.2 hS.2.2.size hb⟩
    · intro y fp0 hS hd
      try simp only [Act.put, List.setIfInBounds_toArray, List.set_cons_zero, List.set_cons_succ]
      refine FreeUpon.pure (.pointer (some ⟨w.heap.size + 1, 0, none⟩)) ?_ ⟨rfl, rfl⟩ hS
      go_simp
    · intro y fp0 hS hd
      try simp only [Act.put, List.setIfInBounds_toArray, List.set_cons_zero, List.set_cons_succ]
      obtain ⟨⟨hp, _⟩, _⟩ := hd { on := 3, ground := Ground.data } (by simp) (by kernel_rfl)
      have hcell := hS.2.1.at (i := 0) rfl
      refine FreeUpon.pure (.int .i64 x.xGates[j].xGate) ?_ ⟨rfl, rfl⟩ hS
      go_simp
      all_goals simp [hp, hcell]
    · intro y fp0 hS hd
      try simp only [Act.put, List.setIfInBounds_toArray, List.set_cons_zero, List.set_cons_succ]
      refine FreeUpon.pure (.pointer (some ⟨w.heap.size + 1, 1, none⟩)) ?_ ⟨rfl, rfl⟩ hS
      go_simp
    · intro y fp0 hS hd
      try simp only [Act.put, List.setIfInBounds_toArray, List.set_cons_zero, List.set_cons_succ]
      obtain ⟨⟨hp, _⟩, _⟩ := hd { on := 5, ground := Ground.data } (by simp) (by kernel_rfl)
      have hcell := hS.2.1.at (i := 1) rfl
      refine FreeUpon.pure (.bool x.xGates[j].xUp) ?_ ⟨rfl, rfl⟩ hS
      go_simp
      all_goals simp [hp, hcell]
    · intro y fp0 hS hd
      try simp only [Act.put, List.setIfInBounds_toArray, List.set_cons_zero, List.set_cons_succ]
      refine FreeUpon.pure (.pointer (some ⟨w.heap.size + 1, 5, none⟩)) ?_ ⟨rfl, rfl⟩ hS
      go_simp
    · intro y fp0 hS hd
      try simp only [Act.put, List.setIfInBounds_toArray, List.set_cons_zero, List.set_cons_succ]
      obtain ⟨⟨hp, _⟩, _⟩ := hd { on := 7, ground := Ground.data } (by simp) (by kernel_rfl)
      have hcell := hS.2.1.at (i := 5) rfl
      refine FreeUpon.pure (.int .i64 x.xGates[j].xJam) ?_ ⟨rfl, rfl⟩ hS
      go_simp
      all_goals simp [hp, hcell]
    · intro y fp0 hS hd
      try simp only [Act.put, List.setIfInBounds_toArray, List.set_cons_zero, List.set_cons_succ]
      refine FreeUpon.pure (.pointer (some ⟨w.heap.size + 1, 2, none⟩)) ?_ ⟨rfl, rfl⟩ hS
      go_simp
    · intro y fp0 hS hd
      try simp only [Act.put, List.setIfInBounds_toArray, List.set_cons_zero, List.set_cons_succ]
      obtain ⟨⟨hp, _⟩, _⟩ := hd { on := 9, ground := Ground.data } (by simp) (by kernel_rfl)
      have hcell := hS.2.1.at (i := 2) rfl
      refine FreeUpon.pure (.slice B2 x.xGates[j].xActive.length q2) ?_ ⟨rfl, rfl⟩ hS
      go_simp
      all_goals simp [hp, hcell]
    · intro y fp0 hS hd
      try simp only [Act.put, List.setIfInBounds_toArray, List.set_cons_zero, List.set_cons_succ]
      obtain ⟨⟨hp, _⟩, _⟩ := hd { on := 10, ground := Ground.data } (by simp) (by kernel_rfl)
      refine FreeUpon.call (g := 229) (args := #[.slice B2 x.xGates[j].xActive.length q2]) ?_ ((aspRanges_n _ x.xGates[j].xActive y (H2.out.below hS.2.2) (by have := Hz.out; omega)).mono fun e y' h => ?_)
      · go_simp
        all_goals simp [hp]
      · obtain ⟨u, f, he, ho, hn, hb⟩ := h
        exact ⟨_, f, he, ⟨u, rfl, ho⟩, hn, hb, hS.1.keep hb, hS.2.1.keep hb, belowOn hS.2.2 hS.2.2.size hb⟩
    · intro y fp0 hS hd
      try simp only [Act.put, List.setIfInBounds_toArray, List.set_cons_zero, List.set_cons_succ]
      refine FreeUpon.pure (.pointer (some ⟨w.heap.size + 1, 3, none⟩)) ?_ ⟨rfl, rfl⟩ hS
      go_simp
    · intro y fp0 hS hd
      try simp only [Act.put, List.setIfInBounds_toArray, List.set_cons_zero, List.set_cons_succ]
      obtain ⟨⟨hp, _⟩, _⟩ := hd { on := 12, ground := Ground.data } (by simp) (by kernel_rfl)
      have hcell := hS.2.1.at (i := 3) rfl
      refine FreeUpon.pure (.slice B3 x.xGates[j].xAsked.length q3) ?_ ⟨rfl, rfl⟩ hS
      go_simp
      all_goals simp [hp, hcell]
    · intro y fp0 hS hd
      try simp only [Act.put, List.setIfInBounds_toArray, List.set_cons_zero, List.set_cons_succ]
      obtain ⟨⟨hp, _⟩, _⟩ := hd { on := 13, ground := Ground.data } (by simp) (by kernel_rfl)
      refine FreeUpon.call (g := 229) (args := #[.slice B3 x.xGates[j].xAsked.length q3]) ?_ ((aspRanges_n _ x.xGates[j].xAsked y (H3.out.below hS.2.2) (by have := Hz.out; omega)).mono fun e y' h => ?_)
      · go_simp
        all_goals simp [hp]
      · obtain ⟨u, f, he, ho, hn, hb⟩ := h
        exact ⟨_, f, he, ⟨u, rfl, ho⟩, hn, hb, hS.1.keep hb, hS.2.1.keep hb, belowOn hS.2.2 hS.2.2.size hb⟩
    · intro y fp0 hS hd
      try simp only [Act.put, List.setIfInBounds_toArray, List.set_cons_zero, List.set_cons_succ]
      refine FreeUpon.pure (.pointer (some ⟨w.heap.size + 1, 4, none⟩)) ?_ ⟨rfl, rfl⟩ hS
      go_simp
    · intro y fp0 hS hd
      try simp only [Act.put, List.setIfInBounds_toArray, List.set_cons_zero, List.set_cons_succ]
      obtain ⟨⟨hp, _⟩, _⟩ := hd { on := 15, ground := Ground.data } (by simp) (by kernel_rfl)
      have hcell := hS.2.1.at (i := 4) rfl
      refine FreeUpon.pure (.slice B4 x.xGates[j].xOff.length q4) ?_ ⟨rfl, rfl⟩ hS
      go_simp
      all_goals simp [hp, hcell]
    · intro y fp0 hS hd
      try simp only [Act.put, List.setIfInBounds_toArray, List.set_cons_zero, List.set_cons_succ]
      obtain ⟨⟨hp, _⟩, _⟩ := hd { on := 16, ground := Ground.data } (by simp) (by kernel_rfl)
      refine FreeUpon.call (g := 230) (args := #[.slice B4 x.xGates[j].xOff.length q4]) ?_ ((aspOffs_n _ x.xGates[j].xOff y (H4.out.below hS.2.2) (by have := Hz.out; omega)).mono fun e y' h => ?_)
      · go_simp
        all_goals simp [hp]
      · obtain ⟨u, f, he, ho, hn, hb⟩ := h
        exact ⟨_, f, he, ⟨u, rfl, ho⟩, hn, hb, hS.1.keep hb, hS.2.1.keep hb, belowOn hS.2.2 hS.2.2.size hb⟩
  · intro vals fp y hS hb hf
    have Hf := Lib.hid hf
    have HS := Lib.hid hS
    clear hS hf
    obtain ⟨e0, _⟩ := (Hf.out.1 0 (by omega) rfl).1
    obtain ⟨e1, _⟩ := (Hf.out.1 1 (by omega) rfl).1
    obtain ⟨u2, e2, o2⟩ := (Hf.out.1 2 (by omega) rfl).1
    have O2 := Lib.hid o2
    have N2 := Lib.hid (Hf.out.1 2 (by omega) rfl).2
    clear o2
    obtain ⟨e3, _⟩ := (Hf.out.1 3 (by omega) rfl).1
    obtain ⟨e4, _⟩ := (Hf.out.1 4 (by omega) rfl).1
    obtain ⟨e5, _⟩ := (Hf.out.1 5 (by omega) rfl).1
    obtain ⟨e6, _⟩ := (Hf.out.1 6 (by omega) rfl).1
    obtain ⟨e7, _⟩ := (Hf.out.1 7 (by omega) rfl).1
    obtain ⟨e8, _⟩ := (Hf.out.1 8 (by omega) rfl).1
    obtain ⟨e9, _⟩ := (Hf.out.1 9 (by omega) rfl).1
    obtain ⟨e10, _⟩ := (Hf.out.1 10 (by omega) rfl).1
    obtain ⟨u11, e11, o11⟩ := (Hf.out.1 11 (by omega) rfl).1
    have O11 := Lib.hid o11
    have N11 := Lib.hid (Hf.out.1 11 (by omega) rfl).2
    clear o11
    obtain ⟨e12, _⟩ := (Hf.out.1 12 (by omega) rfl).1
    obtain ⟨e13, _⟩ := (Hf.out.1 13 (by omega) rfl).1
    obtain ⟨u14, e14, o14⟩ := (Hf.out.1 14 (by omega) rfl).1
    have O14 := Lib.hid o14
    have N14 := Lib.hid (Hf.out.1 14 (by omega) rfl).2
    clear o14
    obtain ⟨e15, _⟩ := (Hf.out.1 15 (by omega) rfl).1
    obtain ⟨e16, _⟩ := (Hf.out.1 16 (by omega) rfl).1
    obtain ⟨u17, e17, o17⟩ := (Hf.out.1 17 (by omega) rfl).1
    have O17 := Lib.hid o17
    have N17 := Lib.hid (Hf.out.1 17 (by omega) rfl).2
    clear o17
    simp only [List.take_succ_cons, List.take_zero, List.drop_succ_cons, List.drop_zero, putAll, Act.put, List.setIfInBounds_toArray, List.set_cons_zero, List.set_cons_succ, e0, e1, e2, e3, e4, e5, e6, e7, e8, e9, e10, e11, e12, e13, e14, e15, e16, e17]
    replace HB := Lib.hid (HB.out.trans (hb.mono (by rw [← Hsz.out]; omega)))
    have Hsy := Lib.hid (show w.heap.size + 2 ≤ y.heap.size by have := hb.size; rw [← Hsz.out] at this; exact this)
    clear hb
    go_wp2
    refine bodyPost_ret (v := .pointer (some ⟨y.heap.size, 0, none⟩)) (by simp [results, Try.results137, go_sem]) rfl ?_
    have ba := (Below.refl y.heap.size y).alloc (Nat.le_refl _) (.cells #[u2, .int .i64 4, .int .i64 1, .int .i64 9, .int .i64 x.xGates[j].xGate, .bool x.xGates[j].xUp, u11, .int .i64 9, .int .i64 1, .int .i64 9, u14, .int .i64 9, .int .i64 1, .int .i64 9, u17, .int .i64 6, .int .i64 0, .int .i64 999, .int .i64 x.xGates[j].xJam, .slice none 0 0] 182)
    have n2 : Nw w2.heap.size y.heap.size (fp 2) := ⟨N2.out.1, N2.out.2⟩
    have n11 : Nw w2.heap.size y.heap.size (fp 11) := ⟨N11.out.1, N11.out.2⟩
    have n14 : Nw w2.heap.size y.heap.size (fp 14) := ⟨N14.out.1, N14.out.2⟩
    have n17 : Nw w2.heap.size y.heap.size (fp 17) := ⟨N17.out.1, N17.out.2⟩
    have dj : ∀ i j, i < 18 → j < 18 → i ≠ j → ∀ b ∈ fp i, b ∉ fp j := fun i j hi hj hne => Hf.out.2 i j hi hj hne rfl rfl
    have nn : Nw w2.heap.size y.heap.size (fp 2 ++ (fp 11 ++ (fp 14 ++ fp 17))) := n2.join (n11.join (n14.join n17 (dj 14 17 (by omega) (by omega) (by omega))) (fun b h1 h2 => by
      rcases List.mem_append.1 h2 with h3 | h3
      · exact dj 11 14 (by omega) (by omega) (by omega) b h1 h3
      · exact dj 11 17 (by omega) (by omega) (by omega) b h1 h3)) (fun b h1 h2 => by
      rcases List.mem_append.1 h2 with h3 | h3
      · exact dj 2 11 (by omega) (by omega) (by omega) b h1 h3
      · rcases List.mem_append.1 h3 with h4 | h4
        · exact dj 2 14 (by omega) (by omega) (by omega) b h1 h4
        · exact dj 2 17 (by omega) (by omega) (by omega) b h1 h4)
    refine ⟨y.heap.size, u2, u11, u14, u17, fp 2, fp 11, fp 14, fp 17, rfl, Blk.new _ _ rfl, OwIn.below O2.out ba, OwIn.below O11.out ba, OwIn.below O14.out ba, OwIn.below O17.out ba, ?_, HB.out.alloc HB.out.size _⟩
    have hsy := Hsy.out
    refine ⟨List.nodup_cons.2 ⟨fun hm => ?_, nn.1⟩, fun b hb => ?_⟩
    · have := (nn.2 _ hm).2; omega
    · rcases List.mem_cons.1 hb with rfl | hb
      · exact ⟨by omega, by simp⟩
      · have h1 := nn.2 b hb
        have h2 := Hsz.out
        exact ⟨by omega, by simp; omega⟩
def zero3 (g : DAspGate) : Bool := decide (g.xActive.length = 0) && (decide (g.xAsked.length = 0) && (decide (g.xOff.length = 0) && decide (g.xJam = 0)))
noncomputable def talkF (g : DAspGate) : Bool := upF 1 9 g.xActive && (upF 1 9 g.xAsked && (decide (g.xOff.length ≤ 6) && (upF 0 999 g.xOff && (inB g.xJam 0 3 && (g.xUp || zero3 g)))))
theorem gateOkF_eq (g : DAspGate) : gateOkF g = (inB g.xGate 0 65535 && talkF g) := rfl
theorem talk_up {g : DAspGate} (h : g.xUp = true) : talkF g = ((decide ((g.xActive.length : Int) ≤ 9) && upF 1 9 g.xActive) && ((decide ((g.xAsked.length : Int) ≤ 9) && upF 1 9 g.xAsked) && ((decide ((g.xOff.length : Int) ≤ 6) && upF 0 999 g.xOff) && inB g.xJam 0 3))) := by
  unfold talkF
  rw [h, Bool.true_or, Bool.and_true]
  rcases h1 : upF 1 9 g.xActive with _ | _
  · simp
  rcases h2 : upF 1 9 g.xAsked with _ | _
  · simp
  have l1 := up_len h1 (by omega)
  have l2 := up_len h2 (by omega)
  rw [decide_eq_true (show (g.xActive.length : Int) ≤ 9 by omega), decide_eq_true (show (g.xAsked.length : Int) ≤ 9 by omega)]
  have : decide ((g.xOff.length : Int) ≤ 6) = decide (g.xOff.length ≤ 6) := by congr 1; simp; omega
  rw [this]
  simp [Bool.and_assoc]
theorem talk_no {g : DAspGate} (h : g.xUp = false) : talkF g = zero3 g := by
  unfold talkF
  rw [h, Bool.false_or]
  rcases hz : zero3 g with _ | _
  · simp
  unfold zero3 at hz
  simp only [Bool.and_eq_true, decide_eq_true_eq] at hz
  obtain ⟨h1, h2, h3, h4⟩ := hz
  rw [List.eq_nil_of_length_eq_zero h1, List.eq_nil_of_length_eq_zero h2, List.eq_nil_of_length_eq_zero h3, h4, up_nil, up_nil, inB_iff.2 (by omega)]
  rfl
set_option maxRecDepth 100000 in
set_option maxHeartbeats 4000000 in
theorem talkFits_r (bl : Nat) (u0 u1 u2 u3 : Value) (g : DAspGate) (w : World) (hk : Blk w bl [u0, .int .i64 4, .int .i64 1, .int .i64 9, .int .i64 g.xGate, .bool g.xUp, u1, .int .i64 9, .int .i64 1, .int .i64 9, u2, .int .i64 9, .int .i64 1, .int .i64 9, u3, .int .i64 6, .int .i64 0, .int .i64 999, .int .i64 g.xJam, .slice none 0 0]) (h1 : RdI w u1 g.xActive) (h2 : RdI w u2 g.xAsked) (h3 : RdI w u3 g.xOff) : Calls Try.prog 223 #[.pointer (some ⟨bl, 0, none⟩)] w fun e w' => e = .returned (.bool (talkF g)) ∧ Below w.heap.size w w' := by
  obtain ⟨A, a, rfl⟩ := h1.slice
  obtain ⟨B, b, rfl⟩ := h2.slice
  obtain ⟨C, c, rfl⟩ := h3.slice
  have hca := h1.cap
  have hcb := h2.cap
  have hcc := h3.cap
  have H1 := Lib.hid h1
  have H2 := Lib.hid h2
  have H3 := Lib.hid h3
  have K := Lib.hid hk
  have HB := Lib.hid (Below.refl w.heap.size w)
  have Hup := Lib.hid (show g.xUp = true → talkF g = ((decide ((g.xActive.length : Int) ≤ 9) && upF 1 9 g.xActive) && ((decide ((g.xAsked.length : Int) ≤ 9) && upF 1 9 g.xAsked) && ((decide ((g.xOff.length : Int) ≤ 6) && upF 0 999 g.xOff) && inB g.xJam 0 3))) from talk_up)
  have Hno := Lib.hid (show g.xUp = false → talkF g = (decide (g.xActive.length = 0) && (decide (g.xAsked.length = 0) && (decide (g.xOff.length = 0) && decide (g.xJam = 0)))) from talk_no)
  clear h1 h2 h3 hk
  generalize talkF g = tf at *
  generalize g.xJam = ja at *
  generalize g.xUp = up at *
  have k5 := K.out.at (i := 5) rfl
  rcases up with _ | _
  · have Hq := Lib.hid (Hno.out rfl)
    have k6 := K.out.at (i := 6) rfl
    have k10 := K.out.at (i := 10) rfl
    have k14 := K.out.at (i := 14) rfl
    have k18 := K.out.at (i := 18) rfl
    go_enter Try.func223, Try.ntmps223
    go_wp2
    all_goals
      go_ret
      refine ⟨ret_bool ?_, HB.out⟩
      rw [Hq.out]
      clear K k5 k6 k10 k14 k18
      first | (simp [*]; done) | (rw [Bool.eq_iff_iff]; simp [*]; done) | (rw [Bool.eq_iff_iff]; simp [*]; omega)
  have Hq := Lib.hid (Hup.out rfl)
  clear Hno Hup
  have k6 := K.out.at (i := 6) rfl
  have k7 := K.out.at (i := 7) rfl
  have k8 := K.out.at (i := 8) rfl
  have k9 := K.out.at (i := 9) rfl
  go_enter Try.func223, Try.ntmps223
  go_wp2_with fail
  refine (aspSetFits_r _ g.xActive _ _ _ _ (H1.out.below HB.out)).mono ?_
  rintro e w1 ⟨rfl, b1⟩
  replace K := Lib.hid (K.out.keep b1)
  replace HB := Lib.hid (HB.out.trans (b1.mono HB.out.size))
  clear b1 k5 k6 k7 k8 k9
  rcases s1 : (decide ((g.xActive.length : Int) ≤ 9) && upF 1 9 g.xActive) with _ | _
  · go_wp2
    go_ret
    exact ⟨ret_bool (by rw [Hq.out, s1]; simp), HB.out⟩
  have k10 := K.out.at (i := 10) rfl
  have k11 := K.out.at (i := 11) rfl
  have k12 := K.out.at (i := 12) rfl
  have k13 := K.out.at (i := 13) rfl
  go_wp2_with fail
  refine (aspSetFits_r _ g.xAsked _ _ _ _ (H2.out.below HB.out)).mono ?_
  rintro e w1 ⟨rfl, b1⟩
  replace K := Lib.hid (K.out.keep b1)
  replace HB := Lib.hid (HB.out.trans (b1.mono HB.out.size))
  clear b1 k10 k11 k12 k13
  rcases s2 : (decide ((g.xAsked.length : Int) ≤ 9) && upF 1 9 g.xAsked) with _ | _
  · go_wp2
    go_ret
    exact ⟨ret_bool (by rw [Hq.out, s2]; simp), HB.out⟩
  have k14 := K.out.at (i := 14) rfl
  have k15 := K.out.at (i := 15) rfl
  have k16 := K.out.at (i := 16) rfl
  have k17 := K.out.at (i := 17) rfl
  go_wp2_with fail
  refine (aspSetFits_r _ g.xOff _ _ _ _ (H3.out.below HB.out)).mono ?_
  rintro e w1 ⟨rfl, b1⟩
  replace K := Lib.hid (K.out.keep b1)
  replace HB := Lib.hid (HB.out.trans (b1.mono HB.out.size))
  clear b1 k14 k15 k16 k17
  rcases s3 : (decide ((g.xOff.length : Int) ≤ 6) && upF 0 999 g.xOff) with _ | _
  · go_wp2
    go_ret
    exact ⟨ret_bool (by rw [Hq.out, s3]; simp), HB.out⟩
  have k18 := K.out.at (i := 18) rfl
  go_wp2_with (go_at_call 104; refine (frmIn_any _ _ _ _).mono ?_; rintro e w' ⟨rfl, rfl⟩)
  go_ret
  exact ⟨ret_bool (by rw [Hq.out, s1, s2, s3]; simp), HB.out⟩
end Go.Proofs.Ythdjjgbjemaabaa
