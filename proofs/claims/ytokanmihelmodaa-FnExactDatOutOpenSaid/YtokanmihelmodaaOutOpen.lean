/-
  A sending side at its beginning: DatOutOpen of the program and of the model, and the laws' own helpers at such a side.
-/
import Derived.Test.YtokanmihelmodaaHlpI
import Derived.Test.YtokanmihelmodaaPth
import Derived.Test.YtokanmihelmodaaBlk
namespace Go.Proofs.Ytokanmihelmodaa
open Go.ChangeShapes Go.WideShapes Go.ChangeAt Go.RowKit
set_option linter.unusedVariables false

set_option maxHeartbeats 400000 in
theorem eqDatSentS_nil (A B : Option Addr) (c d : Nat) (w : World) : Calls Try.prog 90 #[.slice A 0 c, .slice B 0 d] w fun e w' => e = .returned (.bool true) ∧ w = w' := by
  go_enter Try.func90, Try.ntmps90
  go_wp2
  go_loop [5] (fun i => i = .int .i64 0) (fun _ => 0)
  case atStart => rfl
  case round =>
    obtain rfl := hrel
    go_wp2
    go_ret
    exact ⟨rfl, rfl⟩
set_option maxHeartbeats 400000 in
theorem markDatSentS_nil (A : Option Addr) (c : Nat) (k : Int) (w : World) : Calls Try.prog 93 #[.slice A 0 c, .int .i64 k] w fun e w' => e = .returned (.int .i64 k) ∧ w = w' := by
  go_enter Try.func93, Try.ntmps93
  go_wp2
  go_loop [1, 5] (fun q i => q = .int .i64 k ∧ i = .int .i64 0) (fun _ _ => 0)
  case atStart => exact ⟨rfl, rfl⟩
  case round =>
    obtain ⟨rfl, rfl⟩ := hrel
    go_wp2
    go_ret
    exact ⟨rfl, rfl⟩
set_option maxHeartbeats 400000 in
theorem heldDatSentS_nil (A : Option Addr) (c : Nat) (k : Int) (w : World) : Calls Try.prog 96 #[.slice A 0 c, .int .i64 k] w fun e w' => e = .returned (.int .i64 k) ∧ w = w' := by
  go_enter Try.func96, Try.ntmps96
  go_wp2
  go_loop [1, 5] (fun q i => q = .int .i64 k ∧ i = .int .i64 0) (fun _ _ => 0)
  case atStart => exact ⟨rfl, rfl⟩
  case round =>
    obtain ⟨rfl, rfl⟩ := hrel
    go_wp2
    go_ret
    exact ⟨rfl, rfl⟩
set_option maxHeartbeats 400000 in
theorem eqDatUnitS_nil (A B : Option Addr) (c d : Nat) (w : World) : Calls Try.prog 91 #[.slice A 0 c, .slice B 0 d] w fun e w' => e = .returned (.bool true) ∧ w = w' := by
  go_enter Try.func91, Try.ntmps91
  go_wp2
  go_loop [5] (fun i => i = .int .i64 0) (fun _ => 0)
  case atStart => rfl
  case round =>
    obtain rfl := hrel
    go_wp2
    go_ret
    exact ⟨rfl, rfl⟩
set_option maxHeartbeats 400000 in
theorem markDatUnitS_nil (A : Option Addr) (c : Nat) (k : Int) (w : World) : Calls Try.prog 94 #[.slice A 0 c, .int .i64 k] w fun e w' => e = .returned (.int .i64 k) ∧ w = w' := by
  go_enter Try.func94, Try.ntmps94
  go_wp2
  go_loop [1, 5] (fun q i => q = .int .i64 k ∧ i = .int .i64 0) (fun _ _ => 0)
  case atStart => exact ⟨rfl, rfl⟩
  case round =>
    obtain ⟨rfl, rfl⟩ := hrel
    go_wp2
    go_ret
    exact ⟨rfl, rfl⟩
set_option maxHeartbeats 400000 in
theorem heldDatUnitS_nil (A : Option Addr) (c : Nat) (k : Int) (w : World) : Calls Try.prog 97 #[.slice A 0 c, .int .i64 k] w fun e w' => e = .returned (.int .i64 k) ∧ w = w' := by
  go_enter Try.func97, Try.ntmps97
  go_wp2
  go_loop [1, 5] (fun q i => q = .int .i64 k ∧ i = .int .i64 0) (fun _ _ => 0)
  case atStart => exact ⟨rfl, rfl⟩
  case round =>
    obtain ⟨rfl, rfl⟩ := hrel
    go_wp2
    go_ret
    exact ⟨rfl, rfl⟩
theorem RdI.nil (w : World) : RdI w (.slice none 0 0) [] := ⟨none, 0, rfl, ⟨by simp, by decide⟩, by simp⟩
set_option maxHeartbeats 400000 in
theorem eqDatOut_open (s t : Int) (A B A' B' : Option Addr) (c d c' d' : Nat) (u v : Value) (xs : List Int) (w : World) (hu : RdI w u xs) (hv : RdI w v xs) (hn : xs.length ≤ 4294967296) :
    Calls Try.prog 39 #[.agg #[.int .i64 s, .int .i64 t, .slice A 0 c, .slice B 0 d, u], .agg #[.int .i64 s, .int .i64 t, .slice A' 0 c', .slice B' 0 d', v]] w fun e w' => e = .returned (.bool true) ∧ Below w.heap.size w w' := by
  have Hu := Lib.hid (hu.below (below2 w (.cells #[.int .i64 s, .int .i64 t, .slice A 0 c, .slice B 0 d, u] 60) (.cells #[.int .i64 s, .int .i64 t, .slice A' 0 c', .slice B' 0 d', v] 60)))
  have Hv := Lib.hid (hv.below (below2 w (.cells #[.int .i64 s, .int .i64 t, .slice A 0 c, .slice B 0 d, u] 60) (.cells #[.int .i64 s, .int .i64 t, .slice A' 0 c', .slice B' 0 d', v] 60)))
  clear hu hv
  go_enter Try.func39, Try.ntmps39
  go_wp2_with (first | (go_at_call 90; refine (eqDatSentS_nil _ _ _ _ _).mono ?_; rintro e w' ⟨rfl, rfl⟩) | (go_at_call 91; refine (eqDatUnitS_nil _ _ _ _ _).mono ?_; rintro e w' ⟨rfl, rfl⟩))
  refine (eqIntS_any _ _ xs xs _ Hu.out Hv.out hn hn).mono ?_
  rintro e w' ⟨rfl, n, rfl⟩
  rw [beq_self_eq_true]
  go_wp2
  go_ret
  exact ⟨rfl, below_drewN (below2 _ _ _) _⟩
set_option maxHeartbeats 400000 in
theorem markDatOut_open (s t : Int) (A B : Option Addr) (c d : Nat) (v : Value) (k : Int) (xs : List Int) (lo hi : Nat) (w : World) (hv : OwI w lo hi v xs) (hn : xs.length ≤ 4294967296) (hk : 0 ≤ k ∧ k ≤ 1099511627776) :
    Calls Try.prog 42 #[.agg #[.int .i64 s, .int .i64 t, .slice A 0 c, .slice B 0 d, v], .int .i64 k] w fun e w' => e = .returned (.int .i64 (k + xs.length)) ∧ OwI w' lo hi v (marksI k xs.length) ∧ Fr lo hi w w' := by
  have Hv := Lib.hid (hv.alloc (.cells #[.int .i64 s, .int .i64 t, .slice A 0 c, .slice B 0 d, v] 60))
  clear hv
  go_enter Try.func42, Try.ntmps42
  go_wp2_with (first | (go_at_call 93; refine (markDatSentS_nil _ _ _ _).mono ?_; rintro e w' ⟨rfl, rfl⟩) | (go_at_call 94; refine (markDatUnitS_nil _ _ _ _).mono ?_; rintro e w' ⟨rfl, rfl⟩))
  refine (markIntS_any _ _ xs lo hi _ Hv.out hn hk).mono ?_
  rintro e w' ⟨rfl, h1, h2⟩
  have H1 := Lib.hid h1
  have H2 := Lib.hid ((Fr.of_below ((Below.refl _ _).alloc (Nat.le_refl _) _)).trans h2)
  clear h1 h2
  go_wp2
  go_ret
  exact ⟨rfl, H1.out, H2.out⟩
set_option maxHeartbeats 400000 in
theorem heldDatOut_open (s t : Int) (A B : Option Addr) (c d : Nat) (v : Value) (k : Int) (n : Nat) (w : World) (hv : RdI w v (marksI k n)) (hn : n ≤ 4294967296) (hk : 0 ≤ k ∧ k ≤ 1099511627776) :
    Calls Try.prog 43 #[.agg #[.int .i64 s, .int .i64 t, .slice A 0 c, .slice B 0 d, v], .int .i64 k] w fun e w' => e = .returned (.int .i64 (k + n)) ∧ Below w.heap.size w w' := by
  have Hv := Lib.hid (hv.below ((Below.refl _ _).alloc (Nat.le_refl _) (.cells #[.int .i64 s, .int .i64 t, .slice A 0 c, .slice B 0 d, v] 60)))
  clear hv
  go_enter Try.func43, Try.ntmps43
  go_wp2_with (first | (go_at_call 96; refine (heldDatSentS_nil _ _ _ _).mono ?_; rintro e w' ⟨rfl, rfl⟩) | (go_at_call 97; refine (heldDatUnitS_nil _ _ _ _).mono ?_; rintro e w' ⟨rfl, rfl⟩))
  refine (heldIntS_any _ _ n _ Hv.out hn hk).mono ?_
  rintro e w' ⟨rfl, rfl⟩
  go_wp2
  go_ret
  exact ⟨rfl, (Below.refl _ _).alloc (Nat.le_refl _) _⟩
/-- Is there such a side? -/
def openOk (t s : Int) : Bool := inB t 0 4294967295 && inB s 1 8
def OpenC (f : Nat) (t0 s0 s t : Int) (xs : List Int) : Prop := ∀ w : World, Calls Try.prog f #[.int .i64 t0, .int .i64 s0] w fun e w' => ∃ A c B d v, e = .returned (.agg #[.int .i64 s, .int .i64 t, .slice A 0 c, .slice B 0 d, v]) ∧ OwI w' w.heap.size w'.heap.size v xs ∧ Below w.heap.size w w'
set_option maxHeartbeats 400000 in
theorem specOutOpen_no (t s : Int) (h : openOk t s = false) : OpenC 40 t s 0 0 [] := by
  intro w
  have h' : inB t 0 4294967295 = false ∨ (inB t 0 4294967295 = true ∧ inB s 1 8 = false) := by
    unfold openOk at h; cases h1 : inB t 0 4294967295 <;> simp [h1] at h ⊢; exact h
  clear h
  rcases h' with h1 | ⟨h1, h2⟩
  all_goals
    go_enter Try.func40, Try.ntmps40
    go_wp2_with (first | (go_at_call 80; refine (l4Long_any _ _).mono ?_; rintro e w' ⟨rfl, rfl⟩) | (go_at_call 61; refine (l1In_any _ _ _ _).mono ?_; rintro e w' ⟨rfl, rfl⟩))
    refine bodyPost_ret (v := .agg #[.int .i64 0, .int .i64 0, .slice none 0 0, .slice none 0 0, .slice none 0 0]) (by simp [results, Try.results40, go_sem]) rfl ⟨_, _, _, _, _, rfl, OwI.nil _ _ _, ?_⟩
    repeat first | with_reducible exact Below.refl _ _ | with_reducible assumption | with_reducible refine Below.setCell ?_ (by simp <;> omega) _ | with_reducible refine Below.alloc ?_ (by simp <;> omega) _ | with_reducible refine Below.drew ?_
set_option maxHeartbeats 400000 in
theorem implOutOpen_no (t s : Int) (h : openOk t s = false) : OpenC 41 t s 0 0 [] := by
  intro w
  have h' : inB t 0 4294967295 = false ∨ (inB t 0 4294967295 = true ∧ inB s 1 8 = false) := by
    unfold openOk at h; cases h1 : inB t 0 4294967295 <;> simp [h1] at h ⊢; exact h
  clear h
  rcases h' with h1 | ⟨h1, h2⟩
  all_goals
    go_enter Try.func41, Try.ntmps41
    go_wp2_with (first | (go_at_call 87; refine (frmLong_any _ _).mono ?_; rintro e w' ⟨rfl, rfl⟩) | (go_at_call 64; refine (frmIn_any _ _ _ _).mono ?_; rintro e w' ⟨rfl, rfl⟩))
    refine bodyPost_ret (v := .agg #[.int .i64 0, .int .i64 0, .slice none 0 0, .slice none 0 0, .slice none 0 0]) (by simp [results, Try.results41, go_sem]) rfl ⟨_, _, _, _, _, rfl, OwI.nil _ _ _, ?_⟩
    repeat first | with_reducible exact Below.refl _ _ | with_reducible assumption | with_reducible refine Below.setCell ?_ (by simp <;> omega) _ | with_reducible refine Below.alloc ?_ (by simp <;> omega) _ | with_reducible refine Below.drew ?_
set_option maxRecDepth 100000 in
set_option maxHeartbeats 400000 in
theorem specOutOpen_yes (t : Int) (n : Nat) (h : inB t 0 4294967295 = true) (h2 : inB (n : Int) 1 8 = true) : OpenC 40 t n n t (List.replicate n 0) := by
  intro w
  obtain ⟨i0, hi0, hz0, hz1, hz2⟩ := info_parts info_int
  have hb := inB_iff.1 h2
  go_enter Try.func40, Try.ntmps40
  go_wp2_with (first | (go_at_call 80; refine (l4Long_any _ _).mono ?_; rintro e w' ⟨rfl, rfl⟩) | (go_at_call 61; refine (l1In_any _ _ _ _).mono ?_; rintro e w' ⟨rfl, rfl⟩) | (at_make; go_loud (refine wpList_make_full _ rfl _ _ 52 rfl (w.heap.size + 1) 3 i0 _ 1 Try.underlying52 hi0 hz0 hz1 _ _ _ _ n rfl rfl rfl rfl (by rw [hz2]; omega) (by unfold maxLen; omega) (by simp <;> omega) ?_; intro w1 h1 g1; have bb : Below (w.heap.size + 1) (w.alloc (.cells #[.int .i64 0, .int .i64 0, .slice none 0 0, .slice none 0 0, .slice none 0 0] 60)) w1 := ((((Below.refl _ _).alloc (by simp <;> omega) _).alloc (by simp <;> omega) _)).grown g1 (by simp <;> omega) (by simp <;> omega); have kr := (Blk.new (w := w) (b := w.heap.size) #[.int .i64 0, .int .i64 0, .slice none 0 0, .slice none 0 0, .slice none 0 0] 60 rfl).below bb (Nat.lt_succ_self _); have rc0 := kr.at (i := 0) rfl; have rc1 := kr.at (i := 1) rfl; have rc2 := kr.at (i := 2) rfl; have rc3 := kr.at (i := 3) rfl; have rc4 := kr.at (i := 4) rfl; have rf0 := kr.frozen 0; have rf1 := kr.frozen 1; have rf2 := kr.frozen 2; have rf3 := kr.frozen 3; have rf4 := kr.frozen 4; have h1' : w1.ownsRow (w.heap.size + 1) 3 1 _ n (madeCells #[.int .i64 0] (n * 1)).toList := h1; simp only [World.size_alloc] at h1'; have H1 := Lib.hid h1'; have HB := Lib.hid (((Below.refl w.heap.size w).alloc (Nat.le_refl _) (.cells #[.int .i64 0, .int .i64 0, .slice none 0 0, .slice none 0 0, .slice none 0 0] 60)).trans (bb.mono (Nat.le_succ _))); clear bb kr h1 h1' g1)))
  refine bodyPost_ret (v := .agg #[.int .i64 n, .int .i64 t, .slice (some ⟨w.heap.size + 1, 0, none⟩) 0 0, .slice (some ⟨w.heap.size + 1 + 1, 0, none⟩) 0 0, .slice (some ⟨w.heap.size + 1 + 1 + 1, 0, none⟩) n n]) (by simp [results, Try.results40, go_sem, rc0, rc1, rc2, rc3, rc4]) rfl ⟨_, _, _, _, _, rfl, ?_, ?_⟩
  · refine OwI.made (row_mono (ownsRow_setCell_below (a := ⟨w.heap.size, 4, none⟩) (ownsRow_setCell_below (a := ⟨w.heap.size, 3, none⟩) (ownsRow_setCell_below (a := ⟨w.heap.size, 2, none⟩) (ownsRow_setCell_below (a := ⟨w.heap.size, 1, none⟩) (ownsRow_setCell_below (a := ⟨w.heap.size, 0, none⟩) H1.out ?_ _) ?_ _) ?_ _) ?_ _) ?_ _) (Nat.le_succ _))
    all_goals (show w.heap.size < w.heap.size + 1; omega)
  · have hb := HB.out
    repeat first | with_reducible exact Below.refl _ _ | with_reducible assumption | with_reducible refine Below.setCell ?_ (by simp <;> omega) _ | with_reducible refine Below.alloc ?_ (by simp <;> omega) _ | with_reducible refine Below.drew ?_
set_option maxRecDepth 100000 in
set_option maxHeartbeats 400000 in
theorem implOutOpen_yes (t : Int) (n : Nat) (h : inB t 0 4294967295 = true) (h2 : inB (n : Int) 1 8 = true) : OpenC 41 t n n t (List.replicate n 0) := by
  intro w
  obtain ⟨i0, hi0, hz0, hz1, hz2⟩ := info_parts info_int
  have hb := inB_iff.1 h2
  go_enter Try.func41, Try.ntmps41
  go_wp2_with (first | (go_at_call 87; refine (frmLong_any _ _).mono ?_; rintro e w' ⟨rfl, rfl⟩) | (go_at_call 64; refine (frmIn_any _ _ _ _).mono ?_; rintro e w' ⟨rfl, rfl⟩) | (at_make; go_loud (refine wpList_make_full _ rfl _ _ 52 rfl (w.heap.size + 1) 3 i0 _ 1 Try.underlying52 hi0 hz0 hz1 _ _ _ _ n rfl rfl rfl rfl (by rw [hz2]; omega) (by unfold maxLen; omega) (by simp <;> omega) ?_; intro w1 h1 g1; have bb : Below (w.heap.size + 1) (w.alloc (.cells #[.int .i64 0, .int .i64 0, .slice none 0 0, .slice none 0 0, .slice none 0 0] 60)) w1 := ((Below.refl _ _)).grown g1 (by simp <;> omega) (by simp <;> omega); have kr := (Blk.new (w := w) (b := w.heap.size) #[.int .i64 0, .int .i64 0, .slice none 0 0, .slice none 0 0, .slice none 0 0] 60 rfl).below bb (Nat.lt_succ_self _); have rc0 := kr.at (i := 0) rfl; have rc1 := kr.at (i := 1) rfl; have rc2 := kr.at (i := 2) rfl; have rc3 := kr.at (i := 3) rfl; have rc4 := kr.at (i := 4) rfl; have rf0 := kr.frozen 0; have rf1 := kr.frozen 1; have rf2 := kr.frozen 2; have rf3 := kr.frozen 3; have rf4 := kr.frozen 4; have h1' : w1.ownsRow (w.heap.size + 1) 3 1 _ n (madeCells #[.int .i64 0] (n * 1)).toList := h1; simp only [World.size_alloc] at h1'; have H1 := Lib.hid h1'; have HB := Lib.hid (((Below.refl w.heap.size w).alloc (Nat.le_refl _) (.cells #[.int .i64 0, .int .i64 0, .slice none 0 0, .slice none 0 0, .slice none 0 0] 60)).trans (bb.mono (Nat.le_succ _))); clear bb kr h1 h1' g1)))
  refine bodyPost_ret (v := .agg #[.int .i64 n, .int .i64 t, .slice none 0 0, .slice none 0 0, .slice (some ⟨w.heap.size + 1, 0, none⟩) n n]) (by simp [results, Try.results41, go_sem, rc0, rc1, rc2, rc3, rc4]) rfl ⟨_, _, _, _, _, rfl, ?_, ?_⟩
  · refine OwI.made (row_mono (ownsRow_setCell_below (a := ⟨w.heap.size, 4, none⟩) (ownsRow_setCell_below (a := ⟨w.heap.size, 3, none⟩) (ownsRow_setCell_below (a := ⟨w.heap.size, 2, none⟩) (ownsRow_setCell_below (a := ⟨w.heap.size, 1, none⟩) (ownsRow_setCell_below (a := ⟨w.heap.size, 0, none⟩) H1.out ?_ _) ?_ _) ?_ _) ?_ _) ?_ _) (Nat.le_succ _))
    all_goals (show w.heap.size < w.heap.size + 1; omega)
  · have hb := HB.out
    repeat first | with_reducible exact Below.refl _ _ | with_reducible assumption | with_reducible refine Below.setCell ?_ (by simp <;> omega) _ | with_reducible refine Below.alloc ?_ (by simp <;> omega) _ | with_reducible refine Below.drew ?_
end Go.Proofs.Ytokanmihelmodaa
