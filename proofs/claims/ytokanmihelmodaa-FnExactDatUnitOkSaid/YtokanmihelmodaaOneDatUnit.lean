/-
  The contracts of the laws' own helpers on DatUnit: a struct of numbers and one list of bytes. (Written by wip/tools/genone.py.)
-/
import Derived.Test.YtokanmihelmodaaTlv
import Derived.Test.YtokanmihelmodaaBlk
namespace Go.Proofs.Ytokanmihelmodaa
open Go.ChangeShapes Go.WideShapes Go.ChangeAt Go.RowKit
set_option linter.unusedVariables false

set_option maxHeartbeats 400000 in
theorem szDatUnit_any (v : Value) (a0 : Int) (a1 : Int) (a2 : Bool) (xs : List UInt8) (left : Int) (w : World) (hv : RdB w v xs) (hl : 0 ≤ left ∧ left ≤ 1048576) :
    Calls Try.prog 30 #[.agg #[.int .i64 a0, .int .i64 a1, .bool a2, v], .int .i64 left] w fun e w' => e = .returned (.int .i64 (szR left xs.length)) ∧ Below w.heap.size w w' := by
  have hr : szR left xs.length < 0 ∧ szR left xs.length = -1 ∨ 0 ≤ szR left xs.length := by unfold szR; split <;> omega
  generalize hre : szR left xs.length = r at hr ⊢
  have Hre := Lib.hid hre
  have Hv := Lib.hid hv
  clear hv hre
  go_enter Try.func30, Try.ntmps30
  go_wp2_with fail
  refine (szByteS_any _ xs _ _ (Hv.out.below ((Below.refl _ _).alloc (Nat.le_refl _) _)) hl).mono ?_
  rintro e w' ⟨rfl, rfl⟩
  rw [Hre.out]
  rcases hr with ⟨h1, rfl⟩ | h1
  all_goals
    go_wp2
    go_ret
    exact ⟨rfl, (Below.refl _ _).alloc (Nat.le_refl _) _⟩
set_option maxHeartbeats 400000 in
theorem toDatUnit_any (v : Value) (a0 : Int) (a1 : Int) (a2 : Bool) (xs : List UInt8) (w : World) (hv : RdB w v xs) (hn : xs.length ≤ 4294967296) :
    Calls Try.prog 32 #[.agg #[.int .i64 a0, .int .i64 a1, .bool a2, v]] w fun e w' => ∃ v', e = .returned (.agg #[.int .i64 a0, .int .i64 a1, .bool a2, v']) ∧ w'.ownsRow w.heap.size 5 1 v' xs.length (xs.map byt) ∧ Below w.heap.size w w' := by
  have Hv := Lib.hid hv
  clear hv
  go_enter Try.func32, Try.ntmps32
  go_wp2_with fail
  refine (toByteS_any _ xs _ (Hv.out.below (below3 _ _ _ _)) hn).mono ?_
  rintro e w2 ⟨v', rfl, ho, hb⟩
  obtain ⟨A, c, rfl⟩ := ho.rd.slice
  have kr := ((Blk.new (w := w.alloc (.cells #[.int .i64 a0, .int .i64 a1, .bool a2, v] 43)) (b := w.heap.size + 1) #[.int .i64 0, .int .i64 0, .bool false, .slice none 0 0] 46 (by simp)).alloc (.cells #[.int .i64 a0, .int .i64 a1, .bool a2, .slice none 0 0] 46)).keep hb
  have ko := (Blk.new (w := (w.alloc (.cells #[.int .i64 a0, .int .i64 a1, .bool a2, v] 43)).alloc (.cells #[.int .i64 0, .int .i64 0, .bool false, .slice none 0 0] 46)) (b := w.heap.size + 1 + 1) #[.int .i64 a0, .int .i64 a1, .bool a2, .slice none 0 0] 46 (by simp)).keep hb
  have rc0 := kr.at (i := 0) rfl
  have rc1 := kr.at (i := 1) rfl
  have rc2 := kr.at (i := 2) rfl
  have rc3 := kr.at (i := 3) rfl
  have rf0 := kr.frozen 0
  have rf1 := kr.frozen 1
  have rf2 := kr.frozen 2
  have rf3 := kr.frozen 3
  have oc0 := ko.at (i := 0) rfl
  have oc1 := ko.at (i := 1) rfl
  have oc2 := ko.at (i := 2) rfl
  have oc3 := ko.at (i := 3) rfl
  have of3 := ko.frozen 3
  have hz : w.heap.size + 3 ≤ w2.heap.size := by have := hb.size; simp at this; omega
  have Ho := Lib.hid ho
  have Hb := Lib.hid hb
  clear ho hb kr ko
  go_wp2
  refine bodyPost_ret (v := .agg #[.int .i64 a0, .int .i64 a1, .bool a2, .slice A xs.length c]) (by simp [results, Try.results32, go_sem, rc0, rc1, rc2, rc3]) rfl ⟨_, rfl, ?_, ?_⟩
  · have h := Ho.out.1
    simp only [World.size_alloc] at h
    refine row_mono (ownsRow_setCell_below (a := ⟨w.heap.size + 1, 3, none⟩) (ownsRow_setCell_below (a := ⟨w.heap.size + 1, 2, none⟩) (ownsRow_setCell_below (a := ⟨w.heap.size + 1, 1, none⟩) (ownsRow_setCell_below (a := ⟨w.heap.size + 1, 0, none⟩) (ownsRow_setCell_below (a := ⟨w.heap.size + 1 + 1, 3, none⟩) h ?_ _) ?_ _) ?_ _) ?_ _) ?_ _) (by omega)
    · show w.heap.size + 1 + 1 < _; omega
    · show w.heap.size + 1 < _; omega
    · show w.heap.size + 1 < _; omega
    · show w.heap.size + 1 < _; omega
    · show w.heap.size + 1 < _; omega
  · have hb := (below3 w (.cells #[.int .i64 a0, .int .i64 a1, .bool a2, v] 43) (.cells #[.int .i64 0, .int .i64 0, .bool false, .slice none 0 0] 46) (.cells #[.int .i64 a0, .int .i64 a1, .bool a2, .slice none 0 0] 46)).trans (Hb.out.mono (by simp; omega))
    repeat first | with_reducible exact Below.refl _ _ | with_reducible assumption | with_reducible refine Below.setCell ?_ (by simp <;> omega) _ | with_reducible refine Below.alloc ?_ (by simp <;> omega) _ | with_reducible refine Below.drew ?_

set_option maxHeartbeats 400000 in
theorem eqDatUnit_same (u v : Value) (a0 : Int) (a1 : Int) (a2 : Bool) (xs : List UInt8) (w : World) (hu : RdB w u xs) (hv : RdB w v xs) (hn : xs.length ≤ 4294967296) :
    Calls Try.prog 34 #[.agg #[.int .i64 a0, .int .i64 a1, .bool a2, u], .agg #[.int .i64 a0, .int .i64 a1, .bool a2, v]] w fun e w' => e = .returned (.bool true) ∧ Below w.heap.size w w' := by
  have Hu := Lib.hid (hu.below (below2 w (.cells #[.int .i64 a0, .int .i64 a1, .bool a2, u] 46) (.cells #[.int .i64 a0, .int .i64 a1, .bool a2, v] 46)))
  have Hv := Lib.hid (hv.below (below2 w (.cells #[.int .i64 a0, .int .i64 a1, .bool a2, u] 46) (.cells #[.int .i64 a0, .int .i64 a1, .bool a2, v] 46)))
  clear hu hv
  go_enter Try.func34, Try.ntmps34
  go_wp2_with fail
  refine (eqByteS_any _ _ xs xs _ Hu.out Hv.out hn hn).mono ?_
  rintro e w' ⟨rfl, d, rfl⟩
  rw [beq_self_eq_true]
  go_wp2
  go_ret
  exact ⟨rfl, below_drewN (below2 _ _ _) _⟩
end Go.Proofs.Ytokanmihelmodaa
