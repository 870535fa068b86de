/-
  The deeds of an end of a line, the program's side. (Written by wip/tools/gentick.py.)
-/
import Derived.Test.YthdjjgbjemaabaaTickF
import Derived.Test.YthdjjgbjemaabaaAscOkI
import Derived.Test.YthdjjgbjemaabaaLine
namespace Go.Proofs.Ythdjjgbjemaabaa
open Go.ChangeShapes Go.WideShapes Go.ChangeAt Go.RowKit
set_option linter.unusedVariables false
set_option linter.unusedSimpArgs false
theorem isz_Turn : (Try.prog.info? 268).map (·.size) = some 15 := by kernel_rfl

set_option maxRecDepth 100000 in
set_option maxHeartbeats 1000000 in
theorem ascStays_n (x : DAscEnd) (B : Option Addr) (q d : Nat) (w : World) : Calls Try.prog 241 #[.agg #[.int .i64 x.xMe, .int .i64 x.xPeer, .int .i64 x.xSecret, .int .i64 x.xWish, .int .i64 x.xLast, .int .i64 x.xState, .int .i64 x.xTag, .int .i64 x.xPeerTag, .int .i64 x.xTsn, .int .i64 x.xPeerTsn, .int .i64 x.xStreams, .slice B q d, .int .i64 x.xTries, .int .i64 x.xLeft]] w fun e w' => e = .returned (.agg #[.int .i64 x.xMe, .int .i64 x.xPeer, .int .i64 x.xSecret, .int .i64 x.xWish, .int .i64 x.xLast, .int .i64 x.xState, .int .i64 x.xTag, .int .i64 x.xPeerTag, .int .i64 x.xTsn, .int .i64 x.xPeerTsn, .int .i64 x.xStreams, .slice B q d, .int .i64 x.xTries, .int .i64 x.xLeft, .slice none 0 0]) ∧ Below w.heap.size w w' := by
  have K := Lib.hid ((Blk.new (w := w) (b := w.heap.size) #[.int .i64 x.xMe, .int .i64 x.xPeer, .int .i64 x.xSecret, .int .i64 x.xWish, .int .i64 x.xLast, .int .i64 x.xState, .int .i64 x.xTag, .int .i64 x.xPeerTag, .int .i64 x.xTsn, .int .i64 x.xPeerTsn, .int .i64 x.xStreams, .slice B q d, .int .i64 x.xTries, .int .i64 x.xLeft] 67 rfl).alloc (.cells #[.int .i64 0, .int .i64 0, .int .i64 0, .int .i64 0, .int .i64 0, .int .i64 0, .int .i64 0, .int .i64 0, .int .i64 0, .int .i64 0, .int .i64 0, .slice none 0 0, .int .i64 0, .int .i64 0, .slice none 0 0] 268))
  have R := Lib.hid (Blk.new (w := (w.alloc (.cells #[.int .i64 x.xMe, .int .i64 x.xPeer, .int .i64 x.xSecret, .int .i64 x.xWish, .int .i64 x.xLast, .int .i64 x.xState, .int .i64 x.xTag, .int .i64 x.xPeerTag, .int .i64 x.xTsn, .int .i64 x.xPeerTsn, .int .i64 x.xStreams, .slice B q d, .int .i64 x.xTries, .int .i64 x.xLeft] 67))) (b := w.heap.size + 1) #[.int .i64 0, .int .i64 0, .int .i64 0, .int .i64 0, .int .i64 0, .int .i64 0, .int .i64 0, .int .i64 0, .int .i64 0, .int .i64 0, .int .i64 0, .slice none 0 0, .int .i64 0, .int .i64 0, .slice none 0 0] 268 (by simp))
  have HB := Lib.hid (((Below.refl w.heap.size w).alloc (Nat.le_refl _) (.cells #[.int .i64 x.xMe, .int .i64 x.xPeer, .int .i64 x.xSecret, .int .i64 x.xWish, .int .i64 x.xLast, .int .i64 x.xState, .int .i64 x.xTag, .int .i64 x.xPeerTag, .int .i64 x.xTsn, .int .i64 x.xPeerTsn, .int .i64 x.xStreams, .slice B q d, .int .i64 x.xTries, .int .i64 x.xLeft] 67)).alloc (by simp) (.cells #[.int .i64 0, .int .i64 0, .int .i64 0, .int .i64 0, .int .i64 0, .int .i64 0, .int .i64 0, .int .i64 0, .int .i64 0, .int .i64 0, .int .i64 0, .slice none 0 0, .int .i64 0, .int .i64 0, .slice none 0 0] 268))
  go_enter Try.func241, Try.ntmps241
  go_wp2_with (first | (refine wpList_load_blk rfl 67 (.tmp 1) rfl K.out rfl _ Try.underlying67 rfl isz_AscEnd ?_) | (refine wpList_store_blk rfl 268 (.tmp 2) (.tmp 4) rfl R.out _ rfl rfl rfl isz_Turn (by kernel_rfl) ?_; intro w9 kk9 ff9 ss9))
  refine bodyPost_ret (v := .agg #[.int .i64 x.xMe, .int .i64 x.xPeer, .int .i64 x.xSecret, .int .i64 x.xWish, .int .i64 x.xLast, .int .i64 x.xState, .int .i64 x.xTag, .int .i64 x.xPeerTag, .int .i64 x.xTsn, .int .i64 x.xPeerTsn, .int .i64 x.xStreams, .slice B q d, .int .i64 x.xTries, .int .i64 x.xLeft, .slice none 0 0]) (results_rw1 rfl rfl (load_blk 268 kk9 _ Try.underlying268 rfl isz_Turn)) rfl ?_
  exact ⟨rfl, below_frl1 HB.out (Nat.le_refl _) ff9 (by omega)⟩

set_option maxRecDepth 100000 in
set_option maxHeartbeats 1000000 in
theorem ascTo_n (x : DAscEnd) (B : Option Addr) (q d : Nat) (S : Option Addr) (n c : Nat) (w : World) : Calls Try.prog 243 #[.agg #[.int .i64 x.xMe, .int .i64 x.xPeer, .int .i64 x.xSecret, .int .i64 x.xWish, .int .i64 x.xLast, .int .i64 x.xState, .int .i64 x.xTag, .int .i64 x.xPeerTag, .int .i64 x.xTsn, .int .i64 x.xPeerTsn, .int .i64 x.xStreams, .slice B q d, .int .i64 x.xTries, .int .i64 x.xLeft], .slice S n c] w fun e w' => e = .returned (.agg #[.int .i64 x.xMe, .int .i64 x.xPeer, .int .i64 x.xSecret, .int .i64 x.xWish, .int .i64 x.xLast, .int .i64 x.xState, .int .i64 x.xTag, .int .i64 x.xPeerTag, .int .i64 x.xTsn, .int .i64 x.xPeerTsn, .int .i64 x.xStreams, .slice B q d, .int .i64 x.xTries, .int .i64 x.xLeft, .slice S n c]) ∧ Below w.heap.size w w' := by
  have K := Lib.hid ((Blk.new (w := w) (b := w.heap.size) #[.int .i64 x.xMe, .int .i64 x.xPeer, .int .i64 x.xSecret, .int .i64 x.xWish, .int .i64 x.xLast, .int .i64 x.xState, .int .i64 x.xTag, .int .i64 x.xPeerTag, .int .i64 x.xTsn, .int .i64 x.xPeerTsn, .int .i64 x.xStreams, .slice B q d, .int .i64 x.xTries, .int .i64 x.xLeft] 67 rfl).alloc (.cells #[.int .i64 0, .int .i64 0, .int .i64 0, .int .i64 0, .int .i64 0, .int .i64 0, .int .i64 0, .int .i64 0, .int .i64 0, .int .i64 0, .int .i64 0, .slice none 0 0, .int .i64 0, .int .i64 0, .slice none 0 0] 268))
  have R := Lib.hid (Blk.new (w := (w.alloc (.cells #[.int .i64 x.xMe, .int .i64 x.xPeer, .int .i64 x.xSecret, .int .i64 x.xWish, .int .i64 x.xLast, .int .i64 x.xState, .int .i64 x.xTag, .int .i64 x.xPeerTag, .int .i64 x.xTsn, .int .i64 x.xPeerTsn, .int .i64 x.xStreams, .slice B q d, .int .i64 x.xTries, .int .i64 x.xLeft] 67))) (b := w.heap.size + 1) #[.int .i64 0, .int .i64 0, .int .i64 0, .int .i64 0, .int .i64 0, .int .i64 0, .int .i64 0, .int .i64 0, .int .i64 0, .int .i64 0, .int .i64 0, .slice none 0 0, .int .i64 0, .int .i64 0, .slice none 0 0] 268 (by simp))
  have HB := Lib.hid (((Below.refl w.heap.size w).alloc (Nat.le_refl _) (.cells #[.int .i64 x.xMe, .int .i64 x.xPeer, .int .i64 x.xSecret, .int .i64 x.xWish, .int .i64 x.xLast, .int .i64 x.xState, .int .i64 x.xTag, .int .i64 x.xPeerTag, .int .i64 x.xTsn, .int .i64 x.xPeerTsn, .int .i64 x.xStreams, .slice B q d, .int .i64 x.xTries, .int .i64 x.xLeft] 67)).alloc (by simp) (.cells #[.int .i64 0, .int .i64 0, .int .i64 0, .int .i64 0, .int .i64 0, .int .i64 0, .int .i64 0, .int .i64 0, .int .i64 0, .int .i64 0, .int .i64 0, .slice none 0 0, .int .i64 0, .int .i64 0, .slice none 0 0] 268))
  go_enter Try.func243, Try.ntmps243
  go_wp2_with (first | (refine wpList_load_blk rfl 67 (.tmp 2) rfl K.out rfl _ Try.underlying67 rfl isz_AscEnd ?_) | (refine wpList_store_blk rfl 268 (.tmp 4) (.tmp 7) rfl R.out _ rfl rfl rfl isz_Turn (by kernel_rfl) ?_; intro w9 kk9 ff9 ss9))
  refine bodyPost_ret (v := .agg #[.int .i64 x.xMe, .int .i64 x.xPeer, .int .i64 x.xSecret, .int .i64 x.xWish, .int .i64 x.xLast, .int .i64 x.xState, .int .i64 x.xTag, .int .i64 x.xPeerTag, .int .i64 x.xTsn, .int .i64 x.xPeerTsn, .int .i64 x.xStreams, .slice B q d, .int .i64 x.xTries, .int .i64 x.xLeft, .slice S n c]) (results_rw1 rfl rfl (load_blk 268 kk9 _ Try.underlying268 rfl isz_Turn)) rfl ?_
  exact ⟨rfl, below_frl1 HB.out (Nat.le_refl _) ff9 (by omega)⟩

set_option maxRecDepth 100000 in
set_option maxHeartbeats 1000000 in
theorem turn_n (x : DAscEnd) (B : Option Addr) (q d : Nat) (S : Option Addr) (n c : Nat) (w : World) : Calls Try.prog 359 #[.agg #[.int .i64 x.xMe, .int .i64 x.xPeer, .int .i64 x.xSecret, .int .i64 x.xWish, .int .i64 x.xLast, .int .i64 x.xState, .int .i64 x.xTag, .int .i64 x.xPeerTag, .int .i64 x.xTsn, .int .i64 x.xPeerTsn, .int .i64 x.xStreams, .slice B q d, .int .i64 x.xTries, .int .i64 x.xLeft, .slice S n c]] w fun e w' => e = .returned (.agg #[.int .i64 x.xMe, .int .i64 x.xPeer, .int .i64 x.xSecret, .int .i64 x.xWish, .int .i64 x.xLast, .int .i64 x.xState, .int .i64 x.xTag, .int .i64 x.xPeerTag, .int .i64 x.xTsn, .int .i64 x.xPeerTsn, .int .i64 x.xStreams, .slice B q d, .int .i64 x.xTries, .int .i64 x.xLeft, .slice S n c]) ∧ Below w.heap.size w w' := by
  have K := Lib.hid ((Blk.new (w := w) (b := w.heap.size) #[.int .i64 x.xMe, .int .i64 x.xPeer, .int .i64 x.xSecret, .int .i64 x.xWish, .int .i64 x.xLast, .int .i64 x.xState, .int .i64 x.xTag, .int .i64 x.xPeerTag, .int .i64 x.xTsn, .int .i64 x.xPeerTsn, .int .i64 x.xStreams, .slice B q d, .int .i64 x.xTries, .int .i64 x.xLeft, .slice S n c] 268 rfl).alloc (.cells #[.int .i64 0, .int .i64 0, .int .i64 0, .int .i64 0, .int .i64 0, .int .i64 0, .int .i64 0, .int .i64 0, .int .i64 0, .int .i64 0, .int .i64 0, .slice none 0 0, .int .i64 0, .int .i64 0, .slice none 0 0] 268))
  have R := Lib.hid (Blk.new (w := (w.alloc (.cells #[.int .i64 x.xMe, .int .i64 x.xPeer, .int .i64 x.xSecret, .int .i64 x.xWish, .int .i64 x.xLast, .int .i64 x.xState, .int .i64 x.xTag, .int .i64 x.xPeerTag, .int .i64 x.xTsn, .int .i64 x.xPeerTsn, .int .i64 x.xStreams, .slice B q d, .int .i64 x.xTries, .int .i64 x.xLeft, .slice S n c] 268))) (b := w.heap.size + 1) #[.int .i64 0, .int .i64 0, .int .i64 0, .int .i64 0, .int .i64 0, .int .i64 0, .int .i64 0, .int .i64 0, .int .i64 0, .int .i64 0, .int .i64 0, .slice none 0 0, .int .i64 0, .int .i64 0, .slice none 0 0] 268 (by simp))
  have HB := Lib.hid (((Below.refl w.heap.size w).alloc (Nat.le_refl _) (.cells #[.int .i64 x.xMe, .int .i64 x.xPeer, .int .i64 x.xSecret, .int .i64 x.xWish, .int .i64 x.xLast, .int .i64 x.xState, .int .i64 x.xTag, .int .i64 x.xPeerTag, .int .i64 x.xTsn, .int .i64 x.xPeerTsn, .int .i64 x.xStreams, .slice B q d, .int .i64 x.xTries, .int .i64 x.xLeft, .slice S n c] 268)).alloc (by simp) (.cells #[.int .i64 0, .int .i64 0, .int .i64 0, .int .i64 0, .int .i64 0, .int .i64 0, .int .i64 0, .int .i64 0, .int .i64 0, .int .i64 0, .int .i64 0, .slice none 0 0, .int .i64 0, .int .i64 0, .slice none 0 0] 268))
  go_enter Try.func359, Try.ntmps359
  go_wp2_with (first | (refine wpList_load_blk rfl 268 (.tmp 1) rfl K.out rfl _ Try.underlying268 rfl isz_Turn ?_) | (refine wpList_store_blk rfl 268 (.tmp 2) (.tmp 3) rfl R.out _ rfl rfl rfl isz_Turn (by kernel_rfl) ?_; intro w9 kk9 ff9 ss9))
  refine bodyPost_ret (v := .agg #[.int .i64 x.xMe, .int .i64 x.xPeer, .int .i64 x.xSecret, .int .i64 x.xWish, .int .i64 x.xLast, .int .i64 x.xState, .int .i64 x.xTag, .int .i64 x.xPeerTag, .int .i64 x.xTsn, .int .i64 x.xPeerTsn, .int .i64 x.xStreams, .slice B q d, .int .i64 x.xTries, .int .i64 x.xLeft, .slice S n c]) (results_rw1 rfl rfl (load_blk 268 kk9 _ Try.underlying268 rfl isz_Turn)) rfl ?_
  exact ⟨rfl, below_frl1 HB.out (Nat.le_refl _) ff9 (by omega)⟩

set_option maxRecDepth 100000 in
set_option maxHeartbeats 1000000 in
theorem happened_turn (x : DAscEnd) (B : Option Addr) (q d : Nat) (S : Option Addr) (n c : Nat) (w : World) : Calls Try.prog 240 #[.iface 268 (.agg #[.int .i64 x.xMe, .int .i64 x.xPeer, .int .i64 x.xSecret, .int .i64 x.xWish, .int .i64 x.xLast, .int .i64 x.xState, .int .i64 x.xTag, .int .i64 x.xPeerTag, .int .i64 x.xTsn, .int .i64 x.xPeerTsn, .int .i64 x.xStreams, .slice B q d, .int .i64 x.xTries, .int .i64 x.xLeft, .slice S n c])] w fun e w' => e = .returned (.int .i64 0) ∧ Below w.heap.size w w' := by
  have ha0 : ∀ (v : Value) (w : World), (Instr.typeAssert (.iface 268 v) 200 318 true).run Try.prog w = .ok (.tuple #[.agg #[.int .i64 0, .int .i64 0, .int .i64 0, .int .i64 0, .int .i64 0, .int .i64 0, .int .i64 0, .int .i64 0, .int .i64 0, .int .i64 0, .int .i64 0, .slice none 0 0, .int .i64 0, .int .i64 0, .slice none 0 0], .bool false]) w := fun v w => by kernel_rfl
  have ha1 : ∀ (v : Value) (w : World), (Instr.typeAssert (.iface 268 v) 200 319 true).run Try.prog w = .ok (.tuple #[.agg #[.int .i64 0, .int .i64 0, .int .i64 0, .int .i64 0, .int .i64 0, .int .i64 0, .int .i64 0, .int .i64 0, .int .i64 0, .int .i64 0, .int .i64 0, .slice none 0 0, .int .i64 0, .int .i64 0, .slice none 0 0], .bool false]) w := fun v w => by kernel_rfl
  have ha2 : ∀ (v : Value) (w : World), (Instr.typeAssert (.iface 268 v) 200 320 true).run Try.prog w = .ok (.tuple #[.agg #[.int .i64 0, .int .i64 0, .int .i64 0, .int .i64 0, .int .i64 0, .int .i64 0, .int .i64 0, .int .i64 0, .int .i64 0, .int .i64 0, .int .i64 0, .slice none 0 0, .int .i64 0, .int .i64 0, .slice none 0 0], .bool false]) w := fun v w => by kernel_rfl
  have ha3 : ∀ (v : Value) (w : World), (Instr.typeAssert (.iface 268 v) 200 321 true).run Try.prog w = .ok (.tuple #[.agg #[.int .i64 0, .int .i64 0, .int .i64 0, .int .i64 0, .int .i64 0, .int .i64 0, .int .i64 0, .int .i64 0, .int .i64 0, .int .i64 0, .int .i64 0, .slice none 0 0, .int .i64 0, .int .i64 0, .slice none 0 0], .bool false]) w := fun v w => by kernel_rfl
  have ha4 : ∀ (v : Value) (w : World), (Instr.typeAssert (.iface 268 v) 200 322 true).run Try.prog w = .ok (.tuple #[.agg #[.int .i64 0, .int .i64 0, .int .i64 0, .int .i64 0, .int .i64 0, .int .i64 0, .int .i64 0, .int .i64 0, .int .i64 0, .int .i64 0, .int .i64 0, .slice none 0 0, .int .i64 0, .int .i64 0, .slice none 0 0], .bool false]) w := fun v w => by kernel_rfl
  go_enter Try.func240, Try.ntmps240
  go_wp2
  go_ret
  exact ⟨rfl, Below.refl _ _⟩

set_option maxRecDepth 100000 in
set_option maxHeartbeats 1000000 in
theorem happened_loss (x : DAscEnd) (B : Option Addr) (q d : Nat) (S : Option Addr) (n c : Nat) (w : World) : Calls Try.prog 240 #[.iface 320 (.agg #[.int .i64 x.xMe, .int .i64 x.xPeer, .int .i64 x.xSecret, .int .i64 x.xWish, .int .i64 x.xLast, .int .i64 x.xState, .int .i64 x.xTag, .int .i64 x.xPeerTag, .int .i64 x.xTsn, .int .i64 x.xPeerTsn, .int .i64 x.xStreams, .slice B q d, .int .i64 x.xTries, .int .i64 x.xLeft, .slice S n c])] w fun e w' => e = .returned (.int .i64 3) ∧ Below w.heap.size w w' := by
  have ha0 : ∀ (v : Value) (w : World), (Instr.typeAssert (.iface 320 v) 200 318 true).run Try.prog w = .ok (.tuple #[.agg #[.int .i64 0, .int .i64 0, .int .i64 0, .int .i64 0, .int .i64 0, .int .i64 0, .int .i64 0, .int .i64 0, .int .i64 0, .int .i64 0, .int .i64 0, .slice none 0 0, .int .i64 0, .int .i64 0, .slice none 0 0], .bool false]) w := fun v w => by kernel_rfl
  have ha1 : ∀ (v : Value) (w : World), (Instr.typeAssert (.iface 320 v) 200 319 true).run Try.prog w = .ok (.tuple #[.agg #[.int .i64 0, .int .i64 0, .int .i64 0, .int .i64 0, .int .i64 0, .int .i64 0, .int .i64 0, .int .i64 0, .int .i64 0, .int .i64 0, .int .i64 0, .slice none 0 0, .int .i64 0, .int .i64 0, .slice none 0 0], .bool false]) w := fun v w => by kernel_rfl
  have ha2 : ∀ (v : Value) (w : World), (Instr.typeAssert (.iface 320 v) 200 320 true).run Try.prog w = .ok (.tuple #[v, .bool true]) w := fun v w => by kernel_rfl
  have ha3 : ∀ (v : Value) (w : World), (Instr.typeAssert (.iface 320 v) 200 321 true).run Try.prog w = .ok (.tuple #[.agg #[.int .i64 0, .int .i64 0, .int .i64 0, .int .i64 0, .int .i64 0, .int .i64 0, .int .i64 0, .int .i64 0, .int .i64 0, .int .i64 0, .int .i64 0, .slice none 0 0, .int .i64 0, .int .i64 0, .slice none 0 0], .bool false]) w := fun v w => by kernel_rfl
  have ha4 : ∀ (v : Value) (w : World), (Instr.typeAssert (.iface 320 v) 200 322 true).run Try.prog w = .ok (.tuple #[.agg #[.int .i64 0, .int .i64 0, .int .i64 0, .int .i64 0, .int .i64 0, .int .i64 0, .int .i64 0, .int .i64 0, .int .i64 0, .int .i64 0, .int .i64 0, .slice none 0 0, .int .i64 0, .int .i64 0, .slice none 0 0], .bool false]) w := fun v w => by kernel_rfl
  go_enter Try.func240, Try.ntmps240
  go_wp2
  go_ret
  exact ⟨rfl, Below.refl _ _⟩

set_option maxRecDepth 100000 in
set_option maxHeartbeats 1000000 in
theorem tell_turn (x : DAscEnd) (B : Option Addr) (q d : Nat) (S : Option Addr) (n c : Nat) (w : World) : Calls Try.prog 164 #[.iface 268 (.agg #[.int .i64 x.xMe, .int .i64 x.xPeer, .int .i64 x.xSecret, .int .i64 x.xWish, .int .i64 x.xLast, .int .i64 x.xState, .int .i64 x.xTag, .int .i64 x.xPeerTag, .int .i64 x.xTsn, .int .i64 x.xPeerTsn, .int .i64 x.xStreams, .slice B q d, .int .i64 x.xTries, .int .i64 x.xLeft, .slice S n c])] w fun e w' => e = .returned (.tuple #[.agg #[.int .i64 x.xMe, .int .i64 x.xPeer, .int .i64 x.xSecret, .int .i64 x.xWish, .int .i64 x.xLast, .int .i64 x.xState, .int .i64 x.xTag, .int .i64 x.xPeerTag, .int .i64 x.xTsn, .int .i64 x.xPeerTsn, .int .i64 x.xStreams, .slice B q d, .int .i64 x.xTries, .int .i64 x.xLeft], .slice S n c, .int .i64 0]) ∧ Below w.heap.size w w' := by
  have hm : ∀ (w : World), (method 465 268 (.agg #[.int .i64 x.xMe, .int .i64 x.xPeer, .int .i64 x.xSecret, .int .i64 x.xWish, .int .i64 x.xLast, .int .i64 x.xState, .int .i64 x.xTag, .int .i64 x.xPeerTag, .int .i64 x.xTsn, .int .i64 x.xPeerTsn, .int .i64 x.xStreams, .slice B q d, .int .i64 x.xTries, .int .i64 x.xLeft, .slice S n c]) "loop.example/trunk/impl.turn").run Try.prog w = .ok (359, .agg #[.int .i64 x.xMe, .int .i64 x.xPeer, .int .i64 x.xSecret, .int .i64 x.xWish, .int .i64 x.xLast, .int .i64 x.xState, .int .i64 x.xTag, .int .i64 x.xPeerTag, .int .i64 x.xTsn, .int .i64 x.xPeerTsn, .int .i64 x.xStreams, .slice B q d, .int .i64 x.xTries, .int .i64 x.xLeft, .slice S n c]) w := fun _ => by kernel_rfl
  have R := Lib.hid (Blk.new (w := w) (b := w.heap.size) #[.int .i64 0, .int .i64 0, .int .i64 0, .int .i64 0, .int .i64 0, .int .i64 0, .int .i64 0, .int .i64 0, .int .i64 0, .int .i64 0, .int .i64 0, .slice none 0 0, .int .i64 0, .int .i64 0] 67 rfl)
  have HB := Lib.hid ((Below.refl w.heap.size w).alloc (Nat.le_refl _) (.cells #[.int .i64 0, .int .i64 0, .int .i64 0, .int .i64 0, .int .i64 0, .int .i64 0, .int .i64 0, .int .i64 0, .int .i64 0, .int .i64 0, .int .i64 0, .slice none 0 0, .int .i64 0, .int .i64 0] 67))
  have Z0 := Lib.hid (show w.heap.size + 1 = (w.alloc (.cells #[.int .i64 0, .int .i64 0, .int .i64 0, .int .i64 0, .int .i64 0, .int .i64 0, .int .i64 0, .int .i64 0, .int .i64 0, .int .i64 0, .int .i64 0, .slice none 0 0, .int .i64 0, .int .i64 0] 67)).heap.size by simp)
  go_enter Try.func164, Try.ntmps164
  go_wp2_with fail
  refine (turn_n x B q d S n c _).mono ?_
  rintro e w1 ⟨rfl, b1⟩
  have Z1 := Lib.hid (show w.heap.size + 1 ≤ w1.heap.size by have := b1.size; have := Z0.out; omega)
  replace R := Lib.hid (R.out.keep b1)
  replace HB := Lib.hid (HB.out.trans (b1.mono HB.out.size))
  clear b1 Z0
  have bS := (Below.refl w1.heap.size w1).alloc (Nat.le_refl _) (.cells #[.int .i64 0, .int .i64 0, .int .i64 0, .int .i64 0, .int .i64 0, .int .i64 0, .int .i64 0, .int .i64 0, .int .i64 0, .int .i64 0, .int .i64 0, .slice none 0 0, .int .i64 0, .int .i64 0, .slice none 0 0] 268)
  have X0 := Lib.hid (Blk.new (w := w1) (b := w1.heap.size) #[.int .i64 0, .int .i64 0, .int .i64 0, .int .i64 0, .int .i64 0, .int .i64 0, .int .i64 0, .int .i64 0, .int .i64 0, .int .i64 0, .int .i64 0, .slice none 0 0, .int .i64 0, .int .i64 0, .slice none 0 0] 268 rfl)
  replace R := Lib.hid (R.out.keep bS)
  replace HB := Lib.hid (HB.out.trans (bS.mono (by have := Z1.out; omega)))
  clear bS
  go_wp2_with (refine wpList_store_blk rfl 268 (.tmp 5) (.tmp 7) rfl X0.out _ rfl rfl rfl isz_Turn (by kernel_rfl) ?_; intro w2 kk2 ff2 ss2)
  have X := Lib.hid kk2
  replace R := Lib.hid (R.out.frl ff2 (by have := Z1.out; simp; omega))
  replace HB := Lib.hid (below_frl1 HB.out (Nat.le_refl _) ff2 (by have := Z1.out; omega))
  clear kk2 ff2 ss2 X0
  have S0 := Lib.hid (show Blk w2.drew w1.heap.size [.int .i64 x.xMe, .int .i64 x.xPeer, .int .i64 x.xSecret, .int .i64 x.xWish, .int .i64 x.xLast, .int .i64 x.xState, .int .i64 x.xTag, .int .i64 x.xPeerTag, .int .i64 x.xTsn, .int .i64 x.xPeerTsn, .int .i64 x.xStreams, .slice B q d, .int .i64 x.xTries, .int .i64 x.xLeft, .slice S n c] from X.out.drew)
  replace R := Lib.hid R.out.drew
  replace HB := Lib.hid HB.out.drew
  refine wp_region_line (fun y => Blk y w1.heap.size [.int .i64 x.xMe, .int .i64 x.xPeer, .int .i64 x.xSecret, .int .i64 x.xWish, .int .i64 x.xLast, .int .i64 x.xState, .int .i64 x.xTag, .int .i64 x.xPeerTag, .int .i64 x.xTsn, .int .i64 x.xPeerTsn, .int .i64 x.xStreams, .slice B q d, .int .i64 x.xTries, .int .i64 x.xLeft, .slice S n c]) 8 (by kernel_rfl) ?_
  refine line_takeD 0 (some 8) (.pointer (some ⟨w1.heap.size, 0, none⟩)) rfl rfl (by kernel_rfl) (by kernel_rfl) (by kernel_rfl) (by kernel_rfl) (fun _ _ _ h => h) (by rfl) (fun y hS => by go_simp) S0.out ?_
  simp only [Act.put, List.setIfInBounds_toArray, List.set_cons_zero, List.set_cons_succ]
  refine line_takeD 1 (some 9) (.agg #[.int .i64 x.xMe, .int .i64 x.xPeer, .int .i64 x.xSecret, .int .i64 x.xWish, .int .i64 x.xLast, .int .i64 x.xState, .int .i64 x.xTag, .int .i64 x.xPeerTag, .int .i64 x.xTsn, .int .i64 x.xPeerTsn, .int .i64 x.xStreams, .slice B q d, .int .i64 x.xTries, .int .i64 x.xLeft]) rfl rfl (by kernel_rfl) (by kernel_rfl) (by kernel_rfl) (by kernel_rfl) (fun _ _ _ h => h) (by rfl) (fun y hS => by have kk0 := hS.at (i := 0) rfl; have kk1 := hS.at (i := 1) rfl; have kk2 := hS.at (i := 2) rfl; have kk3 := hS.at (i := 3) rfl; have kk4 := hS.at (i := 4) rfl; have kk5 := hS.at (i := 5) rfl; have kk6 := hS.at (i := 6) rfl; have kk7 := hS.at (i := 7) rfl; have kk8 := hS.at (i := 8) rfl; have kk9 := hS.at (i := 9) rfl; have kk10 := hS.at (i := 10) rfl; have kk11 := hS.at (i := 11) rfl; have kk12 := hS.at (i := 12) rfl; have kk13 := hS.at (i := 13) rfl; have kk14 := hS.at (i := 14) rfl; go_simp) S0.out ?_
  simp only [Act.put, List.setIfInBounds_toArray, List.set_cons_zero, List.set_cons_succ]
  refine line_takeD 2 (some 10) (.pointer (some ⟨w1.heap.size, 14, none⟩)) rfl rfl (by kernel_rfl) (by kernel_rfl) (by kernel_rfl) (by kernel_rfl) (fun _ _ _ h => h) (by rfl) (fun y hS => by go_simp) S0.out ?_
  simp only [Act.put, List.setIfInBounds_toArray, List.set_cons_zero, List.set_cons_succ]
  refine line_takeD 3 (some 11) (.slice S n c) rfl rfl (by kernel_rfl) (by kernel_rfl) (by kernel_rfl) (by kernel_rfl) (fun _ _ _ h => h) (by rfl) (fun y hS => by have kk14 := hS.at (i := 14) rfl; go_simp) S0.out ?_
  simp only [Act.put, List.setIfInBounds_toArray, List.set_cons_zero, List.set_cons_succ]
  refine line_takeD 4 (some 12) (.iface 268 (.agg #[.int .i64 x.xMe, .int .i64 x.xPeer, .int .i64 x.xSecret, .int .i64 x.xWish, .int .i64 x.xLast, .int .i64 x.xState, .int .i64 x.xTag, .int .i64 x.xPeerTag, .int .i64 x.xTsn, .int .i64 x.xPeerTsn, .int .i64 x.xStreams, .slice B q d, .int .i64 x.xTries, .int .i64 x.xLeft, .slice S n c])) rfl rfl (by kernel_rfl) (by kernel_rfl) (by kernel_rfl) (by kernel_rfl) (fun _ _ _ h => h) (by rfl) (fun y hS => by go_simp) S0.out ?_
  simp only [Act.put, List.setIfInBounds_toArray, List.set_cons_zero, List.set_cons_succ]
  refine line_callD 5 (some 13) (f := 240) (args := #[.iface 268 (.agg #[.int .i64 x.xMe, .int .i64 x.xPeer, .int .i64 x.xSecret, .int .i64 x.xWish, .int .i64 x.xLast, .int .i64 x.xState, .int .i64 x.xTag, .int .i64 x.xPeerTag, .int .i64 x.xTsn, .int .i64 x.xPeerTsn, .int .i64 x.xStreams, .slice B q d, .int .i64 x.xTries, .int .i64 x.xLeft, .slice S n c])]) rfl rfl (by kernel_rfl) (by rfl) (by go_simp) ?_
  refine (happened_turn x B q d S n c _).mono ?_
  rintro e w6 ⟨rfl, b6⟩
  have S1 := Lib.hid (S0.out.keep b6)
  replace R := Lib.hid (R.out.keep b6)
  replace HB := Lib.hid (HB.out.trans (b6.mono HB.out.size))
  refine ⟨_, rfl, fun _ => S1.out, ?_⟩
  clear S0 X b6
  simp only [Act.put, List.setIfInBounds_toArray, List.set_cons_zero, List.set_cons_succ]
  have fr := Lib.hid (FrL.setCells (f := [w.heap.size]) w.heap.size (by simp) [.int .i64 x.xMe, .int .i64 x.xPeer, .int .i64 x.xSecret, .int .i64 x.xWish, .int .i64 x.xLast, .int .i64 x.xState, .int .i64 x.xTag, .int .i64 x.xPeerTag, .int .i64 x.xTsn, .int .i64 x.xPeerTsn, .int .i64 x.xStreams, .slice B q d, .int .i64 x.xTries, .int .i64 x.xLeft] 0 w6 (FrL.refl _ _))
  have S2 := Lib.hid (show Blk (w6.setCells w.heap.size 0 [.int .i64 x.xMe, .int .i64 x.xPeer, .int .i64 x.xSecret, .int .i64 x.xWish, .int .i64 x.xLast, .int .i64 x.xState, .int .i64 x.xTag, .int .i64 x.xPeerTag, .int .i64 x.xTsn, .int .i64 x.xPeerTsn, .int .i64 x.xStreams, .slice B q d, .int .i64 x.xTries, .int .i64 x.xLeft]) w1.heap.size [.int .i64 x.xMe, .int .i64 x.xPeer, .int .i64 x.xSecret, .int .i64 x.xWish, .int .i64 x.xLast, .int .i64 x.xState, .int .i64 x.xTag, .int .i64 x.xPeerTag, .int .i64 x.xTsn, .int .i64 x.xPeerTsn, .int .i64 x.xStreams, .slice B q d, .int .i64 x.xTries, .int .i64 x.xLeft, .slice S n c] from S1.out.frl fr.out (by have := Z1.out; simp; omega))
  have R9 := Lib.hid (R.out.whole (cs := [.int .i64 x.xMe, .int .i64 x.xPeer, .int .i64 x.xSecret, .int .i64 x.xWish, .int .i64 x.xLast, .int .i64 x.xState, .int .i64 x.xTag, .int .i64 x.xPeerTag, .int .i64 x.xTsn, .int .i64 x.xPeerTsn, .int .i64 x.xStreams, .slice B q d, .int .i64 x.xTries, .int .i64 x.xLeft]) rfl)
  have HB9 := Lib.hid (below_frl1 HB.out (Nat.le_refl _) fr.out (by omega))
  refine line_skipD 6 none (w' := (w6.setCells w.heap.size 0 [.int .i64 x.xMe, .int .i64 x.xPeer, .int .i64 x.xSecret, .int .i64 x.xWish, .int .i64 x.xLast, .int .i64 x.xState, .int .i64 x.xTag, .int .i64 x.xPeerTag, .int .i64 x.xTsn, .int .i64 x.xPeerTsn, .int .i64 x.xStreams, .slice B q d, .int .i64 x.xTries, .int .i64 x.xLeft])) rfl rfl (by kernel_rfl) (by rfl) (exec_store_blk 67 (.tmp 2) (.tmp 9) rfl R.out #[.int .i64 x.xMe, .int .i64 x.xPeer, .int .i64 x.xSecret, .int .i64 x.xWish, .int .i64 x.xLast, .int .i64 x.xState, .int .i64 x.xTag, .int .i64 x.xPeerTag, .int .i64 x.xTsn, .int .i64 x.xPeerTsn, .int .i64 x.xStreams, .slice B q d, .int .i64 x.xTries, .int .i64 x.xLeft] rfl rfl rfl isz_AscEnd (by kernel_rfl)) (fun _ => S2.out) ?_
  simp only [Act.put, List.setIfInBounds_toArray, List.set_cons_zero, List.set_cons_succ]
  refine line_valD 7 (some 3) (.slice S n c) (w' := (w6.setCells w.heap.size 0 [.int .i64 x.xMe, .int .i64 x.xPeer, .int .i64 x.xSecret, .int .i64 x.xWish, .int .i64 x.xLast, .int .i64 x.xState, .int .i64 x.xTag, .int .i64 x.xPeerTag, .int .i64 x.xTsn, .int .i64 x.xPeerTsn, .int .i64 x.xStreams, .slice B q d, .int .i64 x.xTries, .int .i64 x.xLeft])) rfl rfl (by kernel_rfl) (by rfl) (by go_simp) (fun _ => S2.out) ?_
  simp only [Act.put, List.setIfInBounds_toArray, List.set_cons_zero, List.set_cons_succ]
  refine line_valD 8 (some 4) (.int .i64 0) (w' := (w6.setCells w.heap.size 0 [.int .i64 x.xMe, .int .i64 x.xPeer, .int .i64 x.xSecret, .int .i64 x.xWish, .int .i64 x.xLast, .int .i64 x.xState, .int .i64 x.xTag, .int .i64 x.xPeerTag, .int .i64 x.xTsn, .int .i64 x.xPeerTsn, .int .i64 x.xStreams, .slice B q d, .int .i64 x.xTries, .int .i64 x.xLeft])) rfl rfl (by kernel_rfl) (by rfl) (by go_simp) (fun _ => S2.out) ?_
  simp only [Act.put, List.setIfInBounds_toArray, List.set_cons_zero, List.set_cons_succ]
  refine line_done (by kernel_rfl) ?_ _
  clear S1 S2 R fr HB
  generalize World.setCells w6 _ _ _ = w9 at *
  go_wp2
  refine bodyPost_ret (v := .tuple #[.agg #[.int .i64 x.xMe, .int .i64 x.xPeer, .int .i64 x.xSecret, .int .i64 x.xWish, .int .i64 x.xLast, .int .i64 x.xState, .int .i64 x.xTag, .int .i64 x.xPeerTag, .int .i64 x.xTsn, .int .i64 x.xPeerTsn, .int .i64 x.xStreams, .slice B q d, .int .i64 x.xTries, .int .i64 x.xLeft], .slice S n c, .int .i64 0]) (results_row3 rfl rfl rfl rfl (load_blk 67 R9.out _ Try.underlying67 rfl isz_AscEnd)) rfl ?_
  exact ⟨rfl, HB9.out⟩

set_option maxRecDepth 100000 in
set_option maxHeartbeats 1000000 in
theorem tell_loss (x : DAscEnd) (B : Option Addr) (q d : Nat) (S : Option Addr) (n c : Nat) (w : World) : Calls Try.prog 164 #[.iface 320 (.agg #[.int .i64 x.xMe, .int .i64 x.xPeer, .int .i64 x.xSecret, .int .i64 x.xWish, .int .i64 x.xLast, .int .i64 x.xState, .int .i64 x.xTag, .int .i64 x.xPeerTag, .int .i64 x.xTsn, .int .i64 x.xPeerTsn, .int .i64 x.xStreams, .slice B q d, .int .i64 x.xTries, .int .i64 x.xLeft, .slice S n c])] w fun e w' => e = .returned (.tuple #[.agg #[.int .i64 x.xMe, .int .i64 x.xPeer, .int .i64 x.xSecret, .int .i64 x.xWish, .int .i64 x.xLast, .int .i64 x.xState, .int .i64 x.xTag, .int .i64 x.xPeerTag, .int .i64 x.xTsn, .int .i64 x.xPeerTsn, .int .i64 x.xStreams, .slice B q d, .int .i64 x.xTries, .int .i64 x.xLeft], .slice S n c, .int .i64 3]) ∧ Below w.heap.size w w' := by
  have hm : ∀ (w : World), (method 465 320 (.agg #[.int .i64 x.xMe, .int .i64 x.xPeer, .int .i64 x.xSecret, .int .i64 x.xWish, .int .i64 x.xLast, .int .i64 x.xState, .int .i64 x.xTag, .int .i64 x.xPeerTag, .int .i64 x.xTsn, .int .i64 x.xPeerTsn, .int .i64 x.xStreams, .slice B q d, .int .i64 x.xTries, .int .i64 x.xLeft, .slice S n c]) "loop.example/trunk/impl.turn").run Try.prog w = .ok (359, .agg #[.int .i64 x.xMe, .int .i64 x.xPeer, .int .i64 x.xSecret, .int .i64 x.xWish, .int .i64 x.xLast, .int .i64 x.xState, .int .i64 x.xTag, .int .i64 x.xPeerTag, .int .i64 x.xTsn, .int .i64 x.xPeerTsn, .int .i64 x.xStreams, .slice B q d, .int .i64 x.xTries, .int .i64 x.xLeft, .slice S n c]) w := fun _ => by kernel_rfl
  have R := Lib.hid (Blk.new (w := w) (b := w.heap.size) #[.int .i64 0, .int .i64 0, .int .i64 0, .int .i64 0, .int .i64 0, .int .i64 0, .int .i64 0, .int .i64 0, .int .i64 0, .int .i64 0, .int .i64 0, .slice none 0 0, .int .i64 0, .int .i64 0] 67 rfl)
  have HB := Lib.hid ((Below.refl w.heap.size w).alloc (Nat.le_refl _) (.cells #[.int .i64 0, .int .i64 0, .int .i64 0, .int .i64 0, .int .i64 0, .int .i64 0, .int .i64 0, .int .i64 0, .int .i64 0, .int .i64 0, .int .i64 0, .slice none 0 0, .int .i64 0, .int .i64 0] 67))
  have Z0 := Lib.hid (show w.heap.size + 1 = (w.alloc (.cells #[.int .i64 0, .int .i64 0, .int .i64 0, .int .i64 0, .int .i64 0, .int .i64 0, .int .i64 0, .int .i64 0, .int .i64 0, .int .i64 0, .int .i64 0, .slice none 0 0, .int .i64 0, .int .i64 0] 67)).heap.size by simp)
  go_enter Try.func164, Try.ntmps164
  go_wp2_with fail
  refine (turn_n x B q d S n c _).mono ?_
  rintro e w1 ⟨rfl, b1⟩
  have Z1 := Lib.hid (show w.heap.size + 1 ≤ w1.heap.size by have := b1.size; have := Z0.out; omega)
  replace R := Lib.hid (R.out.keep b1)
  replace HB := Lib.hid (HB.out.trans (b1.mono HB.out.size))
  clear b1 Z0
  have bS := (Below.refl w1.heap.size w1).alloc (Nat.le_refl _) (.cells #[.int .i64 0, .int .i64 0, .int .i64 0, .int .i64 0, .int .i64 0, .int .i64 0, .int .i64 0, .int .i64 0, .int .i64 0, .int .i64 0, .int .i64 0, .slice none 0 0, .int .i64 0, .int .i64 0, .slice none 0 0] 268)
  have X0 := Lib.hid (Blk.new (w := w1) (b := w1.heap.size) #[.int .i64 0, .int .i64 0, .int .i64 0, .int .i64 0, .int .i64 0, .int .i64 0, .int .i64 0, .int .i64 0, .int .i64 0, .int .i64 0, .int .i64 0, .slice none 0 0, .int .i64 0, .int .i64 0, .slice none 0 0] 268 rfl)
  replace R := Lib.hid (R.out.keep bS)
  replace HB := Lib.hid (HB.out.trans (bS.mono (by have := Z1.out; omega)))
  clear bS
  go_wp2_with (refine wpList_store_blk rfl 268 (.tmp 5) (.tmp 7) rfl X0.out _ rfl rfl rfl isz_Turn (by kernel_rfl) ?_; intro w2 kk2 ff2 ss2)
  have X := Lib.hid kk2
  replace R := Lib.hid (R.out.frl ff2 (by have := Z1.out; simp; omega))
  replace HB := Lib.hid (below_frl1 HB.out (Nat.le_refl _) ff2 (by have := Z1.out; omega))
  clear kk2 ff2 ss2 X0
  have S0 := Lib.hid (show Blk w2.drew w1.heap.size [.int .i64 x.xMe, .int .i64 x.xPeer, .int .i64 x.xSecret, .int .i64 x.xWish, .int .i64 x.xLast, .int .i64 x.xState, .int .i64 x.xTag, .int .i64 x.xPeerTag, .int .i64 x.xTsn, .int .i64 x.xPeerTsn, .int .i64 x.xStreams, .slice B q d, .int .i64 x.xTries, .int .i64 x.xLeft, .slice S n c] from X.out.drew)
  replace R := Lib.hid R.out.drew
  replace HB := Lib.hid HB.out.drew
  refine wp_region_line (fun y => Blk y w1.heap.size [.int .i64 x.xMe, .int .i64 x.xPeer, .int .i64 x.xSecret, .int .i64 x.xWish, .int .i64 x.xLast, .int .i64 x.xState, .int .i64 x.xTag, .int .i64 x.xPeerTag, .int .i64 x.xTsn, .int .i64 x.xPeerTsn, .int .i64 x.xStreams, .slice B q d, .int .i64 x.xTries, .int .i64 x.xLeft, .slice S n c]) 8 (by kernel_rfl) ?_
  refine line_takeD 0 (some 8) (.pointer (some ⟨w1.heap.size, 0, none⟩)) rfl rfl (by kernel_rfl) (by kernel_rfl) (by kernel_rfl) (by kernel_rfl) (fun _ _ _ h => h) (by rfl) (fun y hS => by go_simp) S0.out ?_
  simp only [Act.put, List.setIfInBounds_toArray, List.set_cons_zero, List.set_cons_succ]
  refine line_takeD 1 (some 9) (.agg #[.int .i64 x.xMe, .int .i64 x.xPeer, .int .i64 x.xSecret, .int .i64 x.xWish, .int .i64 x.xLast, .int .i64 x.xState, .int .i64 x.xTag, .int .i64 x.xPeerTag, .int .i64 x.xTsn, .int .i64 x.xPeerTsn, .int .i64 x.xStreams, .slice B q d, .int .i64 x.xTries, .int .i64 x.xLeft]) rfl rfl (by kernel_rfl) (by kernel_rfl) (by kernel_rfl) (by kernel_rfl) (fun _ _ _ h => h) (by rfl) (fun y hS => by have kk0 := hS.at (i := 0) rfl; have kk1 := hS.at (i := 1) rfl; have kk2 := hS.at (i := 2) rfl; have kk3 := hS.at (i := 3) rfl; have kk4 := hS.at (i := 4) rfl; have kk5 := hS.at (i := 5) rfl; have kk6 := hS.at (i := 6) rfl; have kk7 := hS.at (i := 7) rfl; have kk8 := hS.at (i := 8) rfl; have kk9 := hS.at (i := 9) rfl; have kk10 := hS.at (i := 10) rfl; have kk11 := hS.at (i := 11) rfl; have kk12 := hS.at (i := 12) rfl; have kk13 := hS.at (i := 13) rfl; have kk14 := hS.at (i := 14) rfl; go_simp) S0.out ?_
  simp only [Act.put, List.setIfInBounds_toArray, List.set_cons_zero, List.set_cons_succ]
  refine line_takeD 2 (some 10) (.pointer (some ⟨w1.heap.size, 14, none⟩)) rfl rfl (by kernel_rfl) (by kernel_rfl) (by kernel_rfl) (by kernel_rfl) (fun _ _ _ h => h) (by rfl) (fun y hS => by go_simp) S0.out ?_
  simp only [Act.put, List.setIfInBounds_toArray, List.set_cons_zero, List.set_cons_succ]
  refine line_takeD 3 (some 11) (.slice S n c) rfl rfl (by kernel_rfl) (by kernel_rfl) (by kernel_rfl) (by kernel_rfl) (fun _ _ _ h => h) (by rfl) (fun y hS => by have kk14 := hS.at (i := 14) rfl; go_simp) S0.out ?_
  simp only [Act.put, List.setIfInBounds_toArray, List.set_cons_zero, List.set_cons_succ]
  refine line_takeD 4 (some 12) (.iface 320 (.agg #[.int .i64 x.xMe, .int .i64 x.xPeer, .int .i64 x.xSecret, .int .i64 x.xWish, .int .i64 x.xLast, .int .i64 x.xState, .int .i64 x.xTag, .int .i64 x.xPeerTag, .int .i64 x.xTsn, .int .i64 x.xPeerTsn, .int .i64 x.xStreams, .slice B q d, .int .i64 x.xTries, .int .i64 x.xLeft, .slice S n c])) rfl rfl (by kernel_rfl) (by kernel_rfl) (by kernel_rfl) (by kernel_rfl) (fun _ _ _ h => h) (by rfl) (fun y hS => by go_simp) S0.out ?_
  simp only [Act.put, List.setIfInBounds_toArray, List.set_cons_zero, List.set_cons_succ]
  refine line_callD 5 (some 13) (f := 240) (args := #[.iface 320 (.agg #[.int .i64 x.xMe, .int .i64 x.xPeer, .int .i64 x.xSecret, .int .i64 x.xWish, .int .i64 x.xLast, .int .i64 x.xState, .int .i64 x.xTag, .int .i64 x.xPeerTag, .int .i64 x.xTsn, .int .i64 x.xPeerTsn, .int .i64 x.xStreams, .slice B q d, .int .i64 x.xTries, .int .i64 x.xLeft, .slice S n c])]) rfl rfl (by kernel_rfl) (by rfl) (by go_simp) ?_
  refine (happened_loss x B q d S n c _).mono ?_
  rintro e w6 ⟨rfl, b6⟩
  have S1 := Lib.hid (S0.out.keep b6)
  replace R := Lib.hid (R.out.keep b6)
  replace HB := Lib.hid (HB.out.trans (b6.mono HB.out.size))
  refine ⟨_, rfl, fun _ => S1.out, ?_⟩
  clear S0 X b6
  simp only [Act.put, List.setIfInBounds_toArray, List.set_cons_zero, List.set_cons_succ]
  have fr := Lib.hid (FrL.setCells (f := [w.heap.size]) w.heap.size (by simp) [.int .i64 x.xMe, .int .i64 x.xPeer, .int .i64 x.xSecret, .int .i64 x.xWish, .int .i64 x.xLast, .int .i64 x.xState, .int .i64 x.xTag, .int .i64 x.xPeerTag, .int .i64 x.xTsn, .int .i64 x.xPeerTsn, .int .i64 x.xStreams, .slice B q d, .int .i64 x.xTries, .int .i64 x.xLeft] 0 w6 (FrL.refl _ _))
  have S2 := Lib.hid (show Blk (w6.setCells w.heap.size 0 [.int .i64 x.xMe, .int .i64 x.xPeer, .int .i64 x.xSecret, .int .i64 x.xWish, .int .i64 x.xLast, .int .i64 x.xState, .int .i64 x.xTag, .int .i64 x.xPeerTag, .int .i64 x.xTsn, .int .i64 x.xPeerTsn, .int .i64 x.xStreams, .slice B q d, .int .i64 x.xTries, .int .i64 x.xLeft]) w1.heap.size [.int .i64 x.xMe, .int .i64 x.xPeer, .int .i64 x.xSecret, .int .i64 x.xWish, .int .i64 x.xLast, .int .i64 x.xState, .int .i64 x.xTag, .int .i64 x.xPeerTag, .int .i64 x.xTsn, .int .i64 x.xPeerTsn, .int .i64 x.xStreams, .slice B q d, .int .i64 x.xTries, .int .i64 x.xLeft, .slice S n c] from S1.out.frl fr.out (by have := Z1.out; simp; omega))
  have R9 := Lib.hid (R.out.whole (cs := [.int .i64 x.xMe, .int .i64 x.xPeer, .int .i64 x.xSecret, .int .i64 x.xWish, .int .i64 x.xLast, .int .i64 x.xState, .int .i64 x.xTag, .int .i64 x.xPeerTag, .int .i64 x.xTsn, .int .i64 x.xPeerTsn, .int .i64 x.xStreams, .slice B q d, .int .i64 x.xTries, .int .i64 x.xLeft]) rfl)
  have HB9 := Lib.hid (below_frl1 HB.out (Nat.le_refl _) fr.out (by omega))
  refine line_skipD 6 none (w' := (w6.setCells w.heap.size 0 [.int .i64 x.xMe, .int .i64 x.xPeer, .int .i64 x.xSecret, .int .i64 x.xWish, .int .i64 x.xLast, .int .i64 x.xState, .int .i64 x.xTag, .int .i64 x.xPeerTag, .int .i64 x.xTsn, .int .i64 x.xPeerTsn, .int .i64 x.xStreams, .slice B q d, .int .i64 x.xTries, .int .i64 x.xLeft])) rfl rfl (by kernel_rfl) (by rfl) (exec_store_blk 67 (.tmp 2) (.tmp 9) rfl R.out #[.int .i64 x.xMe, .int .i64 x.xPeer, .int .i64 x.xSecret, .int .i64 x.xWish, .int .i64 x.xLast, .int .i64 x.xState, .int .i64 x.xTag, .int .i64 x.xPeerTag, .int .i64 x.xTsn, .int .i64 x.xPeerTsn, .int .i64 x.xStreams, .slice B q d, .int .i64 x.xTries, .int .i64 x.xLeft] rfl rfl rfl isz_AscEnd (by kernel_rfl)) (fun _ => S2.out) ?_
  simp only [Act.put, List.setIfInBounds_toArray, List.set_cons_zero, List.set_cons_succ]
  refine line_valD 7 (some 3) (.slice S n c) (w' := (w6.setCells w.heap.size 0 [.int .i64 x.xMe, .int .i64 x.xPeer, .int .i64 x.xSecret, .int .i64 x.xWish, .int .i64 x.xLast, .int .i64 x.xState, .int .i64 x.xTag, .int .i64 x.xPeerTag, .int .i64 x.xTsn, .int .i64 x.xPeerTsn, .int .i64 x.xStreams, .slice B q d, .int .i64 x.xTries, .int .i64 x.xLeft])) rfl rfl (by kernel_rfl) (by rfl) (by go_simp) (fun _ => S2.out) ?_
  simp only [Act.put, List.setIfInBounds_toArray, List.set_cons_zero, List.set_cons_succ]
  refine line_valD 8 (some 4) (.int .i64 3) (w' := (w6.setCells w.heap.size 0 [.int .i64 x.xMe, .int .i64 x.xPeer, .int .i64 x.xSecret, .int .i64 x.xWish, .int .i64 x.xLast, .int .i64 x.xState, .int .i64 x.xTag, .int .i64 x.xPeerTag, .int .i64 x.xTsn, .int .i64 x.xPeerTsn, .int .i64 x.xStreams, .slice B q d, .int .i64 x.xTries, .int .i64 x.xLeft])) rfl rfl (by kernel_rfl) (by rfl) (by go_simp) (fun _ => S2.out) ?_
  simp only [Act.put, List.setIfInBounds_toArray, List.set_cons_zero, List.set_cons_succ]
  refine line_done (by kernel_rfl) ?_ _
  clear S1 S2 R fr HB
  generalize World.setCells w6 _ _ _ = w9 at *
  go_wp2
  refine bodyPost_ret (v := .tuple #[.agg #[.int .i64 x.xMe, .int .i64 x.xPeer, .int .i64 x.xSecret, .int .i64 x.xWish, .int .i64 x.xLast, .int .i64 x.xState, .int .i64 x.xTag, .int .i64 x.xPeerTag, .int .i64 x.xTsn, .int .i64 x.xPeerTsn, .int .i64 x.xStreams, .slice B q d, .int .i64 x.xTries, .int .i64 x.xLeft], .slice S n c, .int .i64 3]) (results_row3 rfl rfl rfl rfl (load_blk 67 R9.out _ Try.underlying67 rfl isz_AscEnd)) rfl ?_
  exact ⟨rfl, HB9.out⟩
end Go.Proofs.Ythdjjgbjemaabaa
