/-
  AspGone and AspRise of the program. (Written by wip/tools/genbookg.py.)
-/
import Derived.Test.YthdjjgbjemaabaaGoneA
import Derived.Test.YthdjjgbjemaabaaGoneS
namespace Go.Proofs.Ythdjjgbjemaabaa
open Go.ChangeShapes Go.WideShapes Go.ChangeAt Go.RowKit
set_option linter.unusedVariables false
set_option linter.unusedSimpArgs false

set_option maxRecDepth 100000 in
set_option maxHeartbeats 2000000 in
theorem implAspGone_p (gate : Int) (cs : List Value) (x : DAspBook) (w : World) (h : FAspBook w cs x) (hz : zAspBook x ≤ 1048576) : Calls Try.prog 36 #[.agg cs.toArray, .int .i64 gate] w (GonePost w x gate) := by
  have HF := Lib.hid h
  have Hz := Lib.hid hz
  obtain ⟨v0, v1, rfl, h0, h1⟩ := h
  clear h0 h1 hz
  have K := Lib.hid ((Blk.new (w := w) (b := w.heap.size) #[v0, v1] 38 rfl).alloc (.cells #[.slice none 0 0, .slice none 0 0] 38))
  have R := Lib.hid (Blk.new (w := w.alloc (.cells #[v0, v1] 38)) (b := w.heap.size + 1) #[.slice none 0 0, .slice none 0 0] 38 (by simp))
  have HB := Lib.hid (((Below.refl w.heap.size w).alloc (Nat.le_refl _) (.cells #[v0, v1] 38)).alloc (by simp) (.cells #[.slice none 0 0, .slice none 0 0] 38))
  have Z0 := Lib.hid (show w.heap.size + 2 = ((w.alloc (.cells #[v0, v1] 38)).alloc (.cells #[.slice none 0 0, .slice none 0 0] 38)).heap.size by simp)
  go_enter Try.func36, Try.ntmps36
  go_wp2_with (refine wpList_load_blk rfl 38 (.tmp 2) rfl K.out rfl _ Try.underlying38 rfl isz_AspBook ?_)
  refine (aspAt_n 123 [] (fun b u0 gate up v1 v2 v3 jam w h => gone1_n b u0 gate up v1 v2 v3 jam w h) (fun args w => by go_simp) gate _ x _ (HF.out.below HB.out) Hz.out).mono ?_
  rintro e w1 ⟨cx, sv, f1, f2, rfl, ex, o2, nx, b1⟩
  obtain ⟨x0, x1, g0, g1, rfl, p0, p1, hfx⟩ := ex
  obtain ⟨X0, c0, rfl⟩ := p0.rd.slice
  obtain ⟨X1, c1, rfl⟩ := OwL.slice p1
  subst hfx
  have P0 := Lib.hid p0
  have P1 := Lib.hid p1
  have O2 := Lib.hid o2
  have NX := Lib.hid (nx.mono (lo' := w.heap.size + 2) (Nat.le_of_eq Z0.out) (Nat.le_refl _))
  replace K := Lib.hid (K.out.keep b1)
  replace R := Lib.hid (R.out.keep b1)
  replace HB := Lib.hid (HB.out.trans (b1.mono HB.out.size))
  clear p0 p1 o2 nx b1 Z0
  go_wp2_with (first | (refine wpList_store_blk rfl 38 (.tmp 2) (.tmp 9) rfl K.out _ rfl rfl rfl isz_AspBook (by kernel_rfl) ?_; intro w8 kk8 ff8 ss8) | (refine wpList_load_blk rfl 38 (.tmp 2) rfl kk8 rfl _ Try.underlying38 rfl isz_AspBook ?_) | (refine wpList_store_blk rfl 38 (.tmp 4) (.tmp 11) rfl (R.out.frl ff8 (by simp)) _ rfl rfl rfl isz_AspBook (by kernel_rfl) ?_; intro w9 kk9 ff9 ss9))
  refine bodyPost_ret (v := .agg #[.slice X0 (goneF x gate).xWish.length c0, .slice X1 (goneF x gate).xGates.length c1]) (results_rw1 rfl rfl (load_blk 38 kk9 _ Try.underlying38 rfl isz_AspBook)) rfl ?_
  have hall : ∀ b ∈ g0 ++ g1 ++ f2, b ∉ [w.heap.size] ∧ b ∉ [w.heap.size + 1] := fun b hb => by have := (NX.out.2 b hb).1; simp; omega
  exact ⟨_, g0 ++ g1, rfl, ⟨_, _, _, _, rfl, (P0.out.frl ff8 (fun b hb => (hall b (by simp [hb])).1)).frl ff9 (fun b hb => (hall b (by simp [hb])).2), OwL.frl EAspGate.framed EAspGate.inside (OwL.frl EAspGate.framed EAspGate.inside P1.out ff8 (fun b hb => (hall b (by simp [hb])).1)) ff9 (fun b hb => (hall b (by simp [hb])).2), rfl⟩, by rw [ss9, ss8]; exact NX.out.left.mono (by omega) (Nat.le_refl _), below_frl1 (below_frl1 HB.out (Nat.le_refl _) ff8 (Nat.le_refl _)) (Nat.le_refl _) ff9 (by omega)⟩

set_option maxRecDepth 100000 in
set_option maxHeartbeats 2000000 in
theorem implAspRise_p (gate : Int) (cs : List Value) (x : DAspBook) (w : World) (h : FAspBook w cs x) (hz : zAspBook x ≤ 1048576) : Calls Try.prog 38 #[.agg cs.toArray, .int .i64 gate] w (RisePost w x gate) := by
  have HF := Lib.hid h
  have Hz := Lib.hid hz
  obtain ⟨v0, v1, rfl, h0, h1⟩ := h
  clear h0 h1 hz
  have K := Lib.hid ((Blk.new (w := w) (b := w.heap.size) #[v0, v1] 38 rfl).alloc (.cells #[.slice none 0 0, .slice none 0 0] 38))
  have R := Lib.hid (Blk.new (w := w.alloc (.cells #[v0, v1] 38)) (b := w.heap.size + 1) #[.slice none 0 0, .slice none 0 0] 38 (by simp))
  have HB := Lib.hid (((Below.refl w.heap.size w).alloc (Nat.le_refl _) (.cells #[v0, v1] 38)).alloc (by simp) (.cells #[.slice none 0 0, .slice none 0 0] 38))
  have Z0 := Lib.hid (show w.heap.size + 2 = ((w.alloc (.cells #[v0, v1] 38)).alloc (.cells #[.slice none 0 0, .slice none 0 0] 38)).heap.size by simp)
  go_enter Try.func38, Try.ntmps38
  go_wp2_with (refine wpList_load_blk rfl 38 (.tmp 2) rfl K.out rfl _ Try.underlying38 rfl isz_AspBook ?_)
  refine (aspAt_n 125 [upWord] (fun b u0 gate up v1 v2 v3 jam w h => rise1_n b u0 gate up v1 v2 v3 jam w h) (fun args w => by go_simp) gate _ x _ (HF.out.below HB.out) Hz.out).mono ?_
  rintro e w1 ⟨cx, sv, f1, f2, rfl, ex, o2, nx, b1⟩
  obtain ⟨x0, x1, g0, g1, rfl, p0, p1, hfx⟩ := ex
  obtain ⟨X0, c0, rfl⟩ := p0.rd.slice
  obtain ⟨X1, c1, rfl⟩ := OwL.slice p1
  subst hfx
  have P0 := Lib.hid p0
  have P1 := Lib.hid p1
  have O2 := Lib.hid o2
  have NX := Lib.hid (nx.mono (lo' := w.heap.size + 2) (Nat.le_of_eq Z0.out) (Nat.le_refl _))
  replace K := Lib.hid (K.out.keep b1)
  replace R := Lib.hid (R.out.keep b1)
  replace HB := Lib.hid (HB.out.trans (b1.mono HB.out.size))
  clear p0 p1 o2 nx b1 Z0
  go_wp2_with (refine wpList_store_blk rfl 38 (.tmp 4) (.tmp 9) rfl R.out _ rfl rfl rfl isz_AspBook (by kernel_rfl) ?_; intro w9 kk9 ff9 ss9)
  refine bodyPost_ret (v := .tuple #[.agg #[.slice X0 (goneF x gate).xWish.length c0, .slice X1 (goneF x gate).xGates.length c1], sv]) (results_row2 rfl rfl rfl (load_blk 38 kk9 _ Try.underlying38 rfl isz_AspBook)) rfl ?_
  have hall : ∀ b ∈ g0 ++ g1 ++ f2, b ∉ [w.heap.size + 1] := fun b hb => by have := (NX.out.2 b hb).1; simp; omega
  exact ⟨_, sv, g0 ++ g1, f2, rfl, ⟨_, _, _, _, rfl, P0.out.frl ff9 (fun b hb => hall b (by simp [hb])), OwL.frl EAspGate.framed EAspGate.inside P1.out ff9 (fun b hb => hall b (by simp [hb])), rfl⟩, OwL.frl EMsgWord.framed EMsgWord.inside O2.out ff9 (fun b hb => hall b (by simp [hb])), by rw [ss9]; exact NX.out.mono (by omega) (Nat.le_refl _), below_frl1 HB.out (Nat.le_refl _) ff9 (by omega)⟩

theorem specAspGone_n (gate : Int) (cs : List Value) (x : DAspBook) (w : World) (h : FAspBook w cs x) (hz : zAspBook x ≤ 1048576) : Calls Try.prog 34 #[.agg cs.toArray, .int .i64 gate] w fun e w' => ∃ cs' f, e = .returned (.agg cs'.toArray) ∧ EAspBook w' f cs' (goneF x gate) ∧ Nw w.heap.size w'.heap.size f ∧ Below w.heap.size w w' := specAspGone_p gate cs x w h hz

theorem implAspGone_n (gate : Int) (cs : List Value) (x : DAspBook) (w : World) (h : FAspBook w cs x) (hz : zAspBook x ≤ 1048576) : Calls Try.prog 36 #[.agg cs.toArray, .int .i64 gate] w fun e w' => ∃ cs' f, e = .returned (.agg cs'.toArray) ∧ EAspBook w' f cs' (goneF x gate) ∧ Nw w.heap.size w'.heap.size f ∧ Below w.heap.size w w' := implAspGone_p gate cs x w h hz

theorem specAspRise_n (gate : Int) (cs : List Value) (x : DAspBook) (w : World) (h : FAspBook w cs x) (hz : zAspBook x ≤ 1048576) : Calls Try.prog 37 #[.agg cs.toArray, .int .i64 gate] w fun e w' => ∃ cs' v' f1 f2, e = .returned (.tuple #[.agg cs'.toArray, v']) ∧ EAspBook w' f1 cs' (goneF x gate) ∧ OwMsgWordS w' f2 v' (riseSays x gate) ∧ Nw w.heap.size w'.heap.size (f1 ++ f2) ∧ Below w.heap.size w w' := specAspRise_p gate cs x w h hz

theorem implAspRise_n (gate : Int) (cs : List Value) (x : DAspBook) (w : World) (h : FAspBook w cs x) (hz : zAspBook x ≤ 1048576) : Calls Try.prog 38 #[.agg cs.toArray, .int .i64 gate] w fun e w' => ∃ cs' v' f1 f2, e = .returned (.tuple #[.agg cs'.toArray, v']) ∧ EAspBook w' f1 cs' (goneF x gate) ∧ OwMsgWordS w' f2 v' (riseSays x gate) ∧ Nw w.heap.size w'.heap.size (f1 ++ f2) ∧ Below w.heap.size w w' := implAspRise_p gate cs x w h hz
end Go.Proofs.Ythdjjgbjemaabaa
