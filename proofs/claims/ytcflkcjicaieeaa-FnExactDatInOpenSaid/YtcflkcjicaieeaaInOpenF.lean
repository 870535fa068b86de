/-
  A receiving side at its beginning: DatInOpen of both programs, over one plain function. (Written by wip/tools/geninopenf.py.)
-/
import Derived.Test.YtcflkcjicaieeaaFree
import Derived.Test.YtcflkcjicaieeaaAppI
import Derived.Test.YtcflkcjicaieeaaTyDatIn
import Derived.Test.YtcflkcjicaieeaaPth
namespace Go.Proofs.Ytcflkcjicaieeaa
open Go.ChangeShapes Go.WideShapes Go.ChangeAt Go.RowKit
set_option linter.unusedVariables false
set_option linter.unusedSimpArgs false

def inOpen (t s : Int) : DDatIn := if (inB t 0 4294967295 && inB s 1 8) = true then ⟨s, addF t (-1) 32, [], [], List.replicate s.toNat 0⟩ else ⟨0, 0, [], [], []⟩
theorem datInOpen_bd (t s : Int) : zDatIn (inOpen t s) ≤ 1048576 := by
  unfold inOpen
  split
  · rename_i h
    simp only [Bool.and_eq_true] at h
    have := inB_iff.1 h.2
    simp [zDatIn, zL, szL]
    omega
  · simp [zDatIn, zL, szL]
set_option maxRecDepth 100000 in
set_option maxHeartbeats 2000000 in
theorem specDatInOpen_n (t s : Int) (w : World) : Calls Try.prog 25 #[.int .i64 t, .int .i64 s] w fun e w' => ∃ cs f, e = .returned (.agg cs.toArray) ∧ EDatIn w' f cs (inOpen t s) ∧ Nw w.heap.size w'.heap.size f ∧ Below w.heap.size w w' := by
  have Hno := Lib.hid (show inB t 0 4294967295 = false ∨ inB s 1 8 = false → inOpen t s = ⟨0, 0, [], [], []⟩ from fun h => by unfold inOpen; rw [if_neg]; rcases h with h | h <;> simp [h])
  have Hyes := Lib.hid (show inB t 0 4294967295 = true → inB s 1 8 = true → inOpen t s = ⟨s, addF t (-1) 32, [], [], List.replicate s.toNat 0⟩ from fun h k => by unfold inOpen; rw [if_pos]; simp [h, k])
  generalize inOpen t s = x at *
  rcases h1 : inB t 0 4294967295 with _ | _
  · have hx := Hno.out (.inl h1)
    subst hx
    go_enter Try.func25, Try.ntmps25
    go_wp2_with (first | (go_at_call 95; refine (l4Long_any _ _).mono ?_; rintro e w' ⟨rfl, rfl⟩; rw [h1]) | (go_at_call 85; refine (l1In_any _ _ _ _).mono ?_; rintro e w' ⟨rfl, rfl⟩))
    refine bodyPost_ret (v := .agg #[.int .i64 0, .int .i64 0, .slice none 0 0, .slice none 0 0, .slice none 0 0]) (by simp [results, Try.results25, go_sem]) rfl ?_
    refine ⟨[.int .i64 0, .int .i64 0, .slice none 0 0, .slice none 0 0, .slice none 0 0], [], rfl, ⟨_, _, _, [], [], [], rfl, OwIn.nil _, OwL.nil _, OwIn.nil _, rfl⟩, Nw.nil _ _, ?_⟩
    repeat first | with_reducible exact Below.refl _ _ | with_reducible assumption | with_reducible refine Below.setCell ?_ (by simp <;> omega) _ | with_reducible refine Below.alloc ?_ (by simp <;> omega) _ | with_reducible refine Below.drew ?_
  rcases h2 : inB s 1 8 with _ | _
  · have hx := Hno.out (.inr h2)
    subst hx
    go_enter Try.func25, Try.ntmps25
    go_wp2_with (first | (go_at_call 95; refine (l4Long_any _ _).mono ?_; rintro e w' ⟨rfl, rfl⟩; rw [h1]) | (go_at_call 85; refine (l1In_any _ _ _ _).mono ?_; rintro e w' ⟨rfl, rfl⟩; rw [h2]))
    refine bodyPost_ret (v := .agg #[.int .i64 0, .int .i64 0, .slice none 0 0, .slice none 0 0, .slice none 0 0]) (by simp [results, Try.results25, go_sem]) rfl ?_
    refine ⟨[.int .i64 0, .int .i64 0, .slice none 0 0, .slice none 0 0, .slice none 0 0], [], rfl, ⟨_, _, _, [], [], [], rfl, OwIn.nil _, OwL.nil _, OwIn.nil _, rfl⟩, Nw.nil _ _, ?_⟩
    repeat first | with_reducible exact Below.refl _ _ | with_reducible assumption | with_reducible refine Below.setCell ?_ (by simp <;> omega) _ | with_reducible refine Below.alloc ?_ (by simp <;> omega) _ | with_reducible refine Below.drew ?_
  have hx := Hyes.out h1 h2
  subst hx
  have hsb := inB_iff.1 h2
  obtain ⟨n, rfl⟩ := Int.eq_ofNat_of_zero_le (a := s) (by omega)
  obtain ⟨i0, hi0, hz0, hz1, hz2⟩ := info_parts info_int
  have K := Lib.hid (Blk.new (w := w) (b := w.heap.size) #[.int .i64 0, .int .i64 0, .slice none 0 0, .slice none 0 0, .slice none 0 0] 37 rfl)
  have HB := Lib.hid ((Below.refl w.heap.size w).alloc (Nat.le_refl _) (.cells #[.int .i64 0, .int .i64 0, .slice none 0 0, .slice none 0 0, .slice none 0 0] 37))
  go_enter Try.func25, Try.ntmps25
  go_wp2_with (first | (go_at_call 95; refine (l4Long_any _ _).mono ?_; rintro e w' ⟨rfl, rfl⟩; rw [h1]) | (go_at_call 85; refine (l1In_any _ _ _ _).mono ?_; rintro e w' ⟨rfl, rfl⟩; rw [h2]))
  refine wp_region_free 7 (fun _ => True) (fun _ i v y f => match i with | 0 => v = .int .i64 (n : Int) ∧ f = [] | 1 => v = .int .i64 t ∧ f = [] | 2 => v = .int .i64 (addF t (-1) 32) ∧ f = [] | 3 => OwIn y f v [] | 4 => OwL 139 7 EDatPiece y f v [] | 5 => v = .int .i64 (n : Int) ∧ f = [] | 6 => OwIn y f v (List.replicate n 0) | _ => False) (fun i => i) (by kernel_rfl) (by kernel_rfl) ?_ (fun _ _ _ _ _ _ _ _ _ h => h) trivial ?_ ?_
  · intro _ i v y y' f h hb
    match i, h with
    | 0, h => exact h
    | 1, h => exact h
    | 2, h => exact h
    | 3, h => exact OwIn.below h hb
    | 4, h => exact OwL.below EDatPiece.framed EDatPiece.inside h hb
    | 5, h => exact h
    | 6, h => exact OwIn.below h hb
  · intro vals
    simp only [List.take_succ_cons, List.take_zero, Steps]
    refine ⟨?_, ?_, ?_, ?_, ?_, ?_, ?_, trivial⟩
    · intro y fp0 _ hd
      try simp only [Act.put, List.setIfInBounds_toArray, List.set_cons_zero, List.set_cons_succ]
      refine FreeUpon.pure (.int .i64 (n : Int)) ?_ ⟨rfl, rfl⟩ trivial
      go_simp
    · intro y fp0 _ hd
      try simp only [Act.put, List.setIfInBounds_toArray, List.set_cons_zero, List.set_cons_succ]
      refine FreeUpon.pure (.int .i64 t) ?_ ⟨rfl, rfl⟩ trivial
      go_simp
    · intro y fp0 _ hd
      try simp only [Act.put, List.setIfInBounds_toArray, List.set_cons_zero, List.set_cons_succ]
      obtain ⟨⟨h15, _⟩, _⟩ := hd { on := 1, ground := Ground.data } (by simp) (by kernel_rfl)
      refine FreeUpon.call (g := 105) (args := #[.int .i64 t, .int .i64 (-1), .int .i64 32]) ?_ (((specAdd_any t (-1) 32 y)).mono fun e y' h => ⟨_, [], h.1, ⟨rfl, rfl⟩, Nw.nil _ _, by rw [← h.2]; exact Below.refl _ _, trivial⟩)
      go_simp
      all_goals simp [h15]
    · intro y fp0 _ hd
      try simp only [Act.put, List.setIfInBounds_toArray, List.set_cons_zero, List.set_cons_succ]
      refine FreeUpon.val (u := .slice (some ⟨y.heap.size, 0, none⟩) 0 0) (w' := y.alloc (.cells #[] 3)) (f := [y.heap.size]) ?_ (OwIn.lit0 y) ⟨by simp, by simp⟩ ((Below.refl _ _).alloc (Nat.le_refl _) _) trivial
      go_simp
    · intro y fp0 _ hd
      try simp only [Act.put, List.setIfInBounds_toArray, List.set_cons_zero, List.set_cons_succ]
      refine FreeUpon.val (u := .slice (some ⟨y.heap.size, 0, none⟩) 0 0) (w' := y.alloc (.cells #[] 139)) (f := [y.heap.size]) ?_ (OwL.lit0 y) ⟨by simp, by simp⟩ ((Below.refl _ _).alloc (Nat.le_refl _) _) trivial
      go_simp
    · intro y fp0 _ hd
      try simp only [Act.put, List.setIfInBounds_toArray, List.set_cons_zero, List.set_cons_succ]
      refine FreeUpon.pure (.int .i64 (n : Int)) ?_ ⟨rfl, rfl⟩ trivial
      go_simp
    · intro y fp0 _ hd
      try simp only [Act.put, List.setIfInBounds_toArray, List.set_cons_zero, List.set_cons_succ]
      obtain ⟨⟨h19, _⟩, _⟩ := hd { on := 5, ground := Ground.data } (by simp) (by kernel_rfl)
      obtain ⟨y', hrun, r1, r2⟩ := run_make_full (P := Try.prog) y y.heap.size 29 3 i0 _ 1 Try.underlying29 hi0 hz0 hz1 .i64 .i64 n (by rw [hz2]; omega) (by unfold maxLen; omega) (Nat.le_refl _)
      have om := OwI.made r1
      refine FreeUpon.val (u := .slice (some ⟨y.heap.size, 0, none⟩) n n) (w' := y') (f := [y.heap.size]) ?_ ⟨row_mono om.1 (Nat.zero_le _), by simp [Value.ownBlock]⟩ ⟨by simp, fun b hb => by have := om.1.lt b (by simp at hb; subst hb; simp [Value.ownBlock]); exact this⟩ ((Below.refl _ _).grown r2 (Nat.le_refl _) (by simp)) trivial
      simp [execOp, Act.eval, h19, hrun]
  · intro vals fp y _ hb hf
    have HB := Lib.hid (HB.out.trans (hb.mono (by simp)))
    have K := Lib.hid (K.out.below hb (by simp))
    have Hf := Lib.hid hf
    clear hb hf
    obtain ⟨e0, _⟩ := (Hf.out.1 0 (by omega) rfl).1
    obtain ⟨e1, _⟩ := (Hf.out.1 1 (by omega) rfl).1
    obtain ⟨e2, _⟩ := (Hf.out.1 2 (by omega) rfl).1
    have o3 : OwIn y (fp 3) (vals 3) [] := (Hf.out.1 3 (by omega) rfl).1
    obtain ⟨A3, q3, e3⟩ := o3.rd.slice
    simp only [List.length_nil, List.length_replicate] at e3
    rw [e3] at o3
    have O3 := Lib.hid o3
    clear o3
    have o4 : OwL 139 7 EDatPiece y (fp 4) (vals 4) [] := (Hf.out.1 4 (by omega) rfl).1
    obtain ⟨A4, q4, e4⟩ := OwL.slice o4
    simp only [List.length_nil, List.length_replicate] at e4
    rw [e4] at o4
    have O4 := Lib.hid o4
    clear o4
    obtain ⟨e5, _⟩ := (Hf.out.1 5 (by omega) rfl).1
    have o6 : OwIn y (fp 6) (vals 6) (List.replicate n 0) := (Hf.out.1 6 (by omega) rfl).1
    obtain ⟨A6, q6, e6⟩ := o6.rd.slice
    simp only [List.length_nil, List.length_replicate] at e6
    rw [e6] at o6
    have O6 := Lib.hid o6
    clear o6
    simp only [List.take_succ_cons, List.take_zero, List.drop_succ_cons, List.drop_zero, putAll, Act.put, List.setIfInBounds_toArray, List.set_cons_zero, List.set_cons_succ, e0, e1, e2, e3, e4, e5, e6, List.length_nil, List.length_replicate]
    have k0 := K.out.at (i := 0) rfl
    have z0 := K.out.frozen 0
    have k1 := K.out.at (i := 1) rfl
    have z1 := K.out.frozen 1
    have k2 := K.out.at (i := 2) rfl
    have z2 := K.out.frozen 2
    have k3 := K.out.at (i := 3) rfl
    have z3 := K.out.frozen 3
    have k4 := K.out.at (i := 4) rfl
    have z4 := K.out.frozen 4
    have G3 := Lib.hid (show w.heap.size ∉ fp 3 from fun h => by have := ((Hf.out.1 3 (by omega) rfl).2.2 _ h).1; simp at this; omega)
    have G4 := Lib.hid (show w.heap.size ∉ fp 4 from fun h => by have := ((Hf.out.1 4 (by omega) rfl).2.2 _ h).1; simp at this; omega)
    have G6 := Lib.hid (show w.heap.size ∉ fp 6 from fun h => by have := ((Hf.out.1 6 (by omega) rfl).2.2 _ h).1; simp at this; omega)
    go_wp2
    refine bodyPost_ret (v := .agg #[.int .i64 (n : Int), .int .i64 (addF t (-1) 32), .slice A3 0 q3, .slice A4 0 q4, .slice A6 n q6]) (by simp [results, Try.results25, go_sem, k0, k1, k2, k3, k4]) rfl ?_
    first | refine ⟨[.int .i64 (n : Int), .int .i64 (addF t (-1) 32), .slice A3 0 q3, .slice A4 0 q4, .slice A6 n q6], fp 3 ++ fp 4 ++ fp 6, rfl, ⟨_, _, _, fp 3, fp 4, fp 6, rfl, ?_, ?_, ?_, rfl⟩, ?_, ?_⟩ | refine ⟨[.int .i64 (n : Int), .int .i64 (addF t (-1) 32), .slice A3 0 q3, .slice A4 0 q4, .slice A6 n q6], rfl, fp 3 ++ fp 4 ++ fp 6, ⟨_, _, _, fp 3, fp 4, fp 6, rfl, ?_, ?_, ?_, rfl⟩, ?_, ?_⟩
    · show OwIn _ (fp 3) _ []
      exact (by repeat first | with_reducible exact O3.out | with_reducible refine OwIn.set ?_ G3.out)
    · show OwL 139 7 EDatPiece _ (fp 4) _ []
      exact (by repeat first | with_reducible exact O4.out | with_reducible refine OwL.set EDatPiece.framed ?_ G4.out)
    · show OwIn _ (fp 6) _ (List.replicate n 0)
      exact (by repeat first | with_reducible exact O6.out | with_reducible refine OwIn.set ?_ G6.out)
    · refine Nw.mono (Nw.join (Nw.join (Hf.out.1 3 (by omega) rfl).2 (Hf.out.1 4 (by omega) rfl).2 (Hf.out.2 3 4 (by omega) (by omega) (by decide) rfl rfl)) (Hf.out.1 6 (by omega) rfl).2 ?_) (by simp) (by simp [size_set])
      intro b hb
      exact (List.mem_append.1 hb).elim (Hf.out.2 3 6 (by omega) (by omega) (by decide) rfl rfl b) (Hf.out.2 4 6 (by omega) (by omega) (by decide) rfl rfl b)
    · have hb := HB.out
      repeat first | with_reducible exact Below.refl _ _ | with_reducible assumption | with_reducible refine Below.setCell ?_ (by simp <;> omega) _ | with_reducible refine Below.alloc ?_ (by simp <;> omega) _ | with_reducible refine Below.drew ?_
set_option maxRecDepth 100000 in
set_option maxHeartbeats 2000000 in
theorem implDatInOpen_n (t s : Int) (w : World) : Calls Try.prog 26 #[.int .i64 t, .int .i64 s] w fun e w' => ∃ cs f, e = .returned (.agg cs.toArray) ∧ EDatIn w' f cs (inOpen t s) ∧ Nw w.heap.size w'.heap.size f ∧ Below w.heap.size w w' := by
  have Hno := Lib.hid (show inB t 0 4294967295 = false ∨ inB s 1 8 = false → inOpen t s = ⟨0, 0, [], [], []⟩ from fun h => by unfold inOpen; rw [if_neg]; rcases h with h | h <;> simp [h])
  have Hyes := Lib.hid (show inB t 0 4294967295 = true → inB s 1 8 = true → inOpen t s = ⟨s, addF t (-1) 32, [], [], List.replicate s.toNat 0⟩ from fun h k => by unfold inOpen; rw [if_pos]; simp [h, k])
  generalize inOpen t s = x at *
  rcases h1 : inB t 0 4294967295 with _ | _
  · have hx := Hno.out (.inl h1)
    subst hx
    go_enter Try.func26, Try.ntmps26
    go_wp2_with (first | (go_at_call 102; refine (frmLong_any _ _).mono ?_; rintro e w' ⟨rfl, rfl⟩; rw [h1]) | (go_at_call 88; refine (frmIn_any _ _ _ _).mono ?_; rintro e w' ⟨rfl, rfl⟩))
    refine bodyPost_ret (v := .agg #[.int .i64 0, .int .i64 0, .slice none 0 0, .slice none 0 0, .slice none 0 0]) (by simp [results, Try.results26, go_sem]) rfl ?_
    refine ⟨[.int .i64 0, .int .i64 0, .slice none 0 0, .slice none 0 0, .slice none 0 0], [], rfl, ⟨_, _, _, [], [], [], rfl, OwIn.nil _, OwL.nil _, OwIn.nil _, rfl⟩, Nw.nil _ _, ?_⟩
    repeat first | with_reducible exact Below.refl _ _ | with_reducible assumption | with_reducible refine Below.setCell ?_ (by simp <;> omega) _ | with_reducible refine Below.alloc ?_ (by simp <;> omega) _ | with_reducible refine Below.drew ?_
  rcases h2 : inB s 1 8 with _ | _
  · have hx := Hno.out (.inr h2)
    subst hx
    go_enter Try.func26, Try.ntmps26
    go_wp2_with (first | (go_at_call 102; refine (frmLong_any _ _).mono ?_; rintro e w' ⟨rfl, rfl⟩; rw [h1]) | (go_at_call 88; refine (frmIn_any _ _ _ _).mono ?_; rintro e w' ⟨rfl, rfl⟩; rw [h2]))
    refine bodyPost_ret (v := .agg #[.int .i64 0, .int .i64 0, .slice none 0 0, .slice none 0 0, .slice none 0 0]) (by simp [results, Try.results26, go_sem]) rfl ?_
    refine ⟨[.int .i64 0, .int .i64 0, .slice none 0 0, .slice none 0 0, .slice none 0 0], [], rfl, ⟨_, _, _, [], [], [], rfl, OwIn.nil _, OwL.nil _, OwIn.nil _, rfl⟩, Nw.nil _ _, ?_⟩
    repeat first | with_reducible exact Below.refl _ _ | with_reducible assumption | with_reducible refine Below.setCell ?_ (by simp <;> omega) _ | with_reducible refine Below.alloc ?_ (by simp <;> omega) _ | with_reducible refine Below.drew ?_
  have hx := Hyes.out h1 h2
  subst hx
  have hsb := inB_iff.1 h2
  obtain ⟨n, rfl⟩ := Int.eq_ofNat_of_zero_le (a := s) (by omega)
  obtain ⟨i0, hi0, hz0, hz1, hz2⟩ := info_parts info_int
  have K := Lib.hid (Blk.new (w := w) (b := w.heap.size) #[.int .i64 0, .int .i64 0, .slice none 0 0, .slice none 0 0, .slice none 0 0] 37 rfl)
  have HB := Lib.hid ((Below.refl w.heap.size w).alloc (Nat.le_refl _) (.cells #[.int .i64 0, .int .i64 0, .slice none 0 0, .slice none 0 0, .slice none 0 0] 37))
  go_enter Try.func26, Try.ntmps26
  go_wp2_with (first | (go_at_call 102; refine (frmLong_any _ _).mono ?_; rintro e w' ⟨rfl, rfl⟩; rw [h1]) | (go_at_call 88; refine (frmIn_any _ _ _ _).mono ?_; rintro e w' ⟨rfl, rfl⟩; rw [h2]))
  refine wp_region_free 5 (fun _ => True) (fun _ i v y f => match i with | 0 => v = .int .i64 (n : Int) ∧ f = [] | 1 => v = .int .i64 t ∧ f = [] | 2 => v = .int .i64 (addF t (-1) 32) ∧ f = [] | 3 => v = .int .i64 (n : Int) ∧ f = [] | 4 => OwIn y f v (List.replicate n 0) | _ => False) (fun i => i) (by kernel_rfl) (by kernel_rfl) ?_ (fun _ _ _ _ _ _ _ _ _ h => h) trivial ?_ ?_
  · intro _ i v y y' f h hb
    match i, h with
    | 0, h => exact h
    | 1, h => exact h
    | 2, h => exact h
    | 3, h => exact h
    | 4, h => exact OwIn.below h hb
  · intro vals
    simp only [List.take_succ_cons, List.take_zero, Steps]
    refine ⟨?_, ?_, ?_, ?_, ?_, trivial⟩
    · intro y fp0 _ hd
      try simp only [Act.put, List.setIfInBounds_toArray, List.set_cons_zero, List.set_cons_succ]
      refine FreeUpon.pure (.int .i64 (n : Int)) ?_ ⟨rfl, rfl⟩ trivial
      go_simp
    · intro y fp0 _ hd
      try simp only [Act.put, List.setIfInBounds_toArray, List.set_cons_zero, List.set_cons_succ]
      refine FreeUpon.pure (.int .i64 t) ?_ ⟨rfl, rfl⟩ trivial
      go_simp
    · intro y fp0 _ hd
      try simp only [Act.put, List.setIfInBounds_toArray, List.set_cons_zero, List.set_cons_succ]
      obtain ⟨⟨h15, _⟩, _⟩ := hd { on := 1, ground := Ground.data } (by simp) (by kernel_rfl)
      refine FreeUpon.call (g := 106) (args := #[.int .i64 t, .int .i64 (-1), .int .i64 32]) ?_ (((implAdd_any t (-1) 32 y)).mono fun e y' h => ⟨_, [], h.1, ⟨rfl, rfl⟩, Nw.nil _ _, by rw [← h.2]; exact Below.refl _ _, trivial⟩)
      go_simp
      all_goals simp [h15]
    · intro y fp0 _ hd
      try simp only [Act.put, List.setIfInBounds_toArray, List.set_cons_zero, List.set_cons_succ]
      refine FreeUpon.pure (.int .i64 (n : Int)) ?_ ⟨rfl, rfl⟩ trivial
      go_simp
    · intro y fp0 _ hd
      try simp only [Act.put, List.setIfInBounds_toArray, List.set_cons_zero, List.set_cons_succ]
      obtain ⟨⟨h19, _⟩, _⟩ := hd { on := 3, ground := Ground.data } (by simp) (by kernel_rfl)
      obtain ⟨y', hrun, r1, r2⟩ := run_make_full (P := Try.prog) y y.heap.size 29 3 i0 _ 1 Try.underlying29 hi0 hz0 hz1 .i64 .i64 n (by rw [hz2]; omega) (by unfold maxLen; omega) (Nat.le_refl _)
      have om := OwI.made r1
      refine FreeUpon.val (u := .slice (some ⟨y.heap.size, 0, none⟩) n n) (w' := y') (f := [y.heap.size]) ?_ ⟨row_mono om.1 (Nat.zero_le _), by simp [Value.ownBlock]⟩ ⟨by simp, fun b hb => by have := om.1.lt b (by simp at hb; subst hb; simp [Value.ownBlock]); exact this⟩ ((Below.refl _ _).grown r2 (Nat.le_refl _) (by simp)) trivial
      simp [execOp, Act.eval, h19, hrun]
  · intro vals fp y _ hb hf
    have HB := Lib.hid (HB.out.trans (hb.mono (by simp)))
    have K := Lib.hid (K.out.below hb (by simp))
    have Hf := Lib.hid hf
    clear hb hf
    obtain ⟨e0, _⟩ := (Hf.out.1 0 (by omega) rfl).1
    obtain ⟨e1, _⟩ := (Hf.out.1 1 (by omega) rfl).1
    obtain ⟨e2, _⟩ := (Hf.out.1 2 (by omega) rfl).1
    obtain ⟨e3, _⟩ := (Hf.out.1 3 (by omega) rfl).1
    have o4 : OwIn y (fp 4) (vals 4) (List.replicate n 0) := (Hf.out.1 4 (by omega) rfl).1
    obtain ⟨A4, q4, e4⟩ := o4.rd.slice
    simp only [List.length_nil, List.length_replicate] at e4
    rw [e4] at o4
    have O4 := Lib.hid o4
    clear o4
    simp only [List.take_succ_cons, List.take_zero, List.drop_succ_cons, List.drop_zero, putAll, Act.put, List.setIfInBounds_toArray, List.set_cons_zero, List.set_cons_succ, e0, e1, e2, e3, e4, List.length_nil, List.length_replicate]
    have k0 := K.out.at (i := 0) rfl
    have z0 := K.out.frozen 0
    have k1 := K.out.at (i := 1) rfl
    have z1 := K.out.frozen 1
    have k2 := K.out.at (i := 2) rfl
    have z2 := K.out.frozen 2
    have k3 := K.out.at (i := 3) rfl
    have z3 := K.out.frozen 3
    have k4 := K.out.at (i := 4) rfl
    have z4 := K.out.frozen 4
    have G4 := Lib.hid (show w.heap.size ∉ fp 4 from fun h => by have := ((Hf.out.1 4 (by omega) rfl).2.2 _ h).1; simp at this; omega)
    go_wp2
    refine bodyPost_ret (v := .agg #[.int .i64 (n : Int), .int .i64 (addF t (-1) 32), .slice none 0 0, .slice none 0 0, .slice A4 n q4]) (by simp [results, Try.results26, go_sem, k0, k1, k2, k3, k4]) rfl ?_
    first | refine ⟨[.int .i64 (n : Int), .int .i64 (addF t (-1) 32), .slice none 0 0, .slice none 0 0, .slice A4 n q4], [] ++ [] ++ fp 4, rfl, ⟨_, _, _, [], [], fp 4, rfl, OwIn.nil _, OwL.nil _, ?_, rfl⟩, ?_, ?_⟩ | refine ⟨[.int .i64 (n : Int), .int .i64 (addF t (-1) 32), .slice none 0 0, .slice none 0 0, .slice A4 n q4], rfl, [] ++ [] ++ fp 4, ⟨_, _, _, [], [], fp 4, rfl, OwIn.nil _, OwL.nil _, ?_, rfl⟩, ?_, ?_⟩
    · show OwIn _ (fp 4) _ (List.replicate n 0)
      exact (by repeat first | with_reducible exact O4.out | with_reducible refine OwIn.set ?_ G4.out)
    · exact ((Hf.out.1 4 (by omega) rfl).2).mono (by simp) (by simp [size_set])
    · have hb := HB.out
      repeat first | with_reducible exact Below.refl _ _ | with_reducible assumption | with_reducible refine Below.setCell ?_ (by simp <;> omega) _ | with_reducible refine Below.alloc ?_ (by simp <;> omega) _ | with_reducible refine Below.drew ?_
end Go.Proofs.Ytcflkcjicaieeaa
