/-
  What is forgotten of a gateway, and what is said. (Written by wip/tools/genbookg.py.)
-/
import Derived.Test.YthdjjgbjemaabaaGoneF
namespace Go.Proofs.Ythdjjgbjemaabaa
open Go.ChangeShapes Go.WideShapes Go.ChangeAt Go.RowKit
set_option linter.unusedVariables false
set_option linter.unusedSimpArgs false

def ForgetPost (w : World) (b : Nat) (u0 : Value) (gate : Int) (says : Value) (e : Ending) (w' : World) : Prop := e = .returned (.tuple #[]) ∧ ∃ u1 u2 u3 f1 f2 f3, Blk w' b [u0, .int .i64 4, .int .i64 1, .int .i64 9, .int .i64 gate, .bool false, u1, .int .i64 9, .int .i64 1, .int .i64 9, u2, .int .i64 9, .int .i64 1, .int .i64 9, u3, .int .i64 6, .int .i64 0, .int .i64 999, .int .i64 0, says] ∧ OwIn w' f1 u1 [] ∧ OwIn w' f2 u2 [] ∧ OwIn w' f3 u3 [] ∧ Nw w.heap.size w'.heap.size (f1 ++ (f2 ++ f3)) ∧ FrL [b] w w'
theorem isz_aspSet : (Try.prog.info? 175).map (·.size) = some 4 := by kernel_rfl
set_option maxRecDepth 100000 in
set_option maxHeartbeats 2000000 in
theorem forget_n (b : Nat) (u0 : Value) (gate : Int) (up : Bool) (v1 v2 v3 : Value) (jam : Int) (says : Value) (w : World) (hk : Blk w b [u0, .int .i64 4, .int .i64 1, .int .i64 9, .int .i64 gate, .bool up, v1, .int .i64 9, .int .i64 1, .int .i64 9, v2, .int .i64 9, .int .i64 1, .int .i64 9, v3, .int .i64 6, .int .i64 0, .int .i64 999, .int .i64 jam, says]) : Calls Try.prog 124 #[.pointer (some ⟨b, 0, none⟩)] w (ForgetPost w b u0 gate says) := by
  have HL := Lib.hid hk.lt
  have k5 := hk.at (i := 5) rfl
  have z5 := hk.frozen 5
  have k18 := hk.at (i := 18) rfl
  have z18 := hk.frozen 18
  have K := Lib.hid ((hk.set (i := 5) (v := .bool false) (by simp)).set (i := 18) (v := .int .i64 0) (by simp))
  simp only [List.set_cons_succ, List.set_cons_zero] at K
  have HF := Lib.hid (((FrL.refl [b] w).set (g := b) (o := 5) (.bool false) (by simp)).set (g := b) (o := 18) (.int .i64 0) (by simp))
  have Z0 := Lib.hid (show ((w.setCell ⟨b, 5, none⟩ (.bool false)).setCell ⟨b, 18, none⟩ (.int .i64 0)).heap.size = w.heap.size by simp only [size_set])
  clear hk
  go_enter Try.func124, Try.ntmps124
  go_wp2_with fail
  clear k5 z5 k18 z18
  generalize World.setCell (World.setCell w _ _) _ _ = w1 at *
  refine (aspRanges_n (.slice none 0 0) [] _ (OwIn.nil _).rd (by simp)).mono ?_
  rintro e w2 ⟨u1, f1, rfl, o1, n1, b1⟩
  replace K := Lib.hid (K.out.keep b1)
  replace HF := Lib.hid (HF.out.trans (FrL.of_below b1))
  have O1 := Lib.hid o1
  have N1 := Lib.hid n1
  obtain ⟨A1, c1, rfl⟩ := o1.rd.slice
  clear o1 n1
  go_wp2_with fail
  refine (aspRanges_n (.slice none 0 0) [] _ (OwIn.nil _).rd (by simp)).mono ?_
  rintro e w3 ⟨u2, f2, rfl, o2, n2, b2⟩
  replace K := Lib.hid (K.out.keep b2)
  replace O1 := Lib.hid (O1.out.below b2)
  replace HF := Lib.hid (HF.out.trans (FrL.of_below b2))
  have O2 := Lib.hid o2
  have N2 := Lib.hid n2
  obtain ⟨A2, c2, rfl⟩ := o2.rd.slice
  clear o2 n2
  go_wp2_with fail
  refine (aspOffs_n (.slice none 0 0) [] _ (OwIn.nil _).rd (by simp)).mono ?_
  rintro e w4 ⟨u3, f3, rfl, o3, n3, b3⟩
  replace K := Lib.hid (K.out.keep b3)
  replace O1 := Lib.hid (O1.out.below b3)
  replace O2 := Lib.hid (O2.out.below b3)
  replace HF := Lib.hid (HF.out.trans (FrL.of_below b3))
  have O3 := Lib.hid o3
  have N3 := Lib.hid n3
  obtain ⟨A3, c3, rfl⟩ := o3.rd.slice
  have NN := Lib.hid (N1.out.app (N2.out.app N3.out b2.size b3.size) b1.size (Nat.le_trans b2.size b3.size))
  clear o3 n3 b1 b2 b3
  go_wp2_with (first | (refine wpList_store_part rfl 175 (.tmp 15) (.tmp 11) rfl K.out _ rfl rfl (by simp) isz_aspSet (by kernel_rfl) ?_; intro w5 k5 f5 s5) | (refine wpList_store_part rfl 175 (.tmp 17) (.tmp 12) rfl k5 _ rfl rfl (by simp) isz_aspSet (by kernel_rfl) ?_; intro w6 k6 f6 s6) | (refine wpList_store_part rfl 175 (.tmp 19) (.tmp 13) rfl k6 _ rfl rfl (by simp) isz_aspSet (by kernel_rfl) ?_; intro w7 k7 f7 s7))
  have hl := HL.out
  have hz := Z0.out
  have hb1 : b ∉ f1 := fun h => by have := (N1.out.2 _ h).1; omega
  have hb2 : b ∉ f2 := fun h => by have := ((NN.out.right).2 b (by simp [h])).1; omega
  have hb3 : b ∉ f3 := fun h => by have := ((NN.out.right).2 b (by simp [h])).1; omega
  have FF := (f5.trans f6).trans f7
  refine bodyPost_ret (v := .tuple #[]) (by simp [results, Try.results124, go_sem]) rfl ?_
  refine ⟨rfl, _, _, _, f1, f2, f3, by simpa using k7, O1.out.frl FF (fun c hc => by simp only [List.mem_singleton]; rintro rfl; exact hb1 hc), O2.out.frl FF (fun c hc => by simp only [List.mem_singleton]; rintro rfl; exact hb2 hc), O3.out.frl FF (fun c hc => by simp only [List.mem_singleton]; rintro rfl; exact hb3 hc), ?_, HF.out.trans FF⟩
  rw [s7, s6, s5, ← hz]
  exact NN.out

theorem info_MsgWord : (Try.prog.info? 164).map (fun i => (i.zero, i.size)) = some (some (.agg #[.int .i64 0, .int .i64 0, .int .i64 0, .int .i64 0, .int .i64 0, .slice none 0 0]), 6) := by kernel_rfl
theorem infob_MsgWord : (match Try.prog.info? 164 with | some i => decide (i.bytes ≤ 4096) | none => false) = true := by kernel_rfl
set_option maxRecDepth 100000 in
theorem elemMsgWord : Elem Try.prog 53 164 6 := by
  obtain ⟨i0, hi0, hz0, hz1, hz2⟩ := info_parts2 info_MsgWord infob_MsgWord
  exact ⟨i0, _, Try.underlying53, hi0, hz0, hz1, hz2, rfl, by decide⟩
/-- What a deed leaves of a talk that has said nothing yet: all is forgotten, and something is said. -/
def HapPost (w : World) (b : Nat) (u0 : Value) (gate : Int) (ws : List DMsgWord) (e : Ending) (w' : World) : Prop := e = .returned (.tuple #[]) ∧ ∃ u1 u2 u3 sv f1 f2 f3 f4, Blk w' b [u0, .int .i64 4, .int .i64 1, .int .i64 9, .int .i64 gate, .bool false, u1, .int .i64 9, .int .i64 1, .int .i64 9, u2, .int .i64 9, .int .i64 1, .int .i64 9, u3, .int .i64 6, .int .i64 0, .int .i64 999, .int .i64 0, sv] ∧ OwIn w' f1 u1 [] ∧ OwIn w' f2 u2 [] ∧ OwIn w' f3 u3 [] ∧ OwMsgWordS w' f4 sv ws ∧ Nw w.heap.size w'.heap.size (f1 ++ (f2 ++ (f3 ++ f4))) ∧ FrL [b] w w'
def SayPost (w : World) (b : Nat) (u0 : Value) (gate : Int) (u1 u2 u3 : Value) (e : Ending) (w' : World) : Prop := e = .returned (.tuple #[]) ∧ ∃ sv f4, Blk w' b [u0, .int .i64 4, .int .i64 1, .int .i64 9, .int .i64 gate, .bool false, u1, .int .i64 9, .int .i64 1, .int .i64 9, u2, .int .i64 9, .int .i64 1, .int .i64 9, u3, .int .i64 6, .int .i64 0, .int .i64 999, .int .i64 0, sv] ∧ OwMsgWordS w' f4 sv [upWord] ∧ Nw w.heap.size w'.heap.size f4 ∧ FrL [b] w w'
set_option maxRecDepth 100000 in
set_option maxHeartbeats 2000000 in
theorem say_n (b : Nat) (u0 : Value) (gate : Int) (u1 u2 u3 : Value) (w : World) (hk : Blk w b [u0, .int .i64 4, .int .i64 1, .int .i64 9, .int .i64 gate, .bool false, u1, .int .i64 9, .int .i64 1, .int .i64 9, u2, .int .i64 9, .int .i64 1, .int .i64 9, u3, .int .i64 6, .int .i64 0, .int .i64 999, .int .i64 0, .slice none 0 0]) : Calls Try.prog 126 #[.pointer (some ⟨b, 0, none⟩), .int .i64 1, .int .i64 0] w (SayPost w b u0 gate u1 u2 u3) := by
  have be := (Below.refl w.heap.size w).alloc (Nat.le_refl _) (.cells #[.int .i64 1, .int .i64 0, .int .i64 0, .int .i64 0, .int .i64 0, .slice none 0 0] 164)
  have HL := Lib.hid hk.lt
  have k19 := hk.at (i := 19) rfl
  have KN := Lib.hid (Blk.new (w := w) (b := w.heap.size) #[.int .i64 1, .int .i64 0, .int .i64 0, .int .i64 0, .int .i64 0, .slice none 0 0] 164 rfl)
  have K := Lib.hid (hk.keep be)
  have BE := Lib.hid be
  have LE := Lib.hid be.size
  clear hk be
  go_enter Try.func126, Try.ntmps126
  go_wp2_with (at_builtin; go_loud (refine wpList_push (lo := w.heap.size) (a := ⟨w.heap.size, 0, none⟩) (c := 1) (ys := [upWord]) (xs := []) (bs := []) EMsgWord.framed EMsgWord.inside elemMsgWord _ rfl (.tmp 10) (.tmp 14) rfl rfl rfl (OwL.nil _) (Nw.nil _ _) LE.out (Els.one (f := []) (upWord_e _) rfl) (Nw.nil _ _) (by simp) (fun i u hu => by rw [add_zero_blk]; exact KN.out.at hu) (by simp [Value.oneCell']) (by simp) ?_))
  intro v' w6 f4 h1 h2 h3 _
  have bq : Below w.heap.size (w.alloc (.cells #[.int .i64 1, .int .i64 0, .int .i64 0, .int .i64 0, .int .i64 0, .slice none 0 0] 164)) w6 := (Below.refl _ _).grown h3 LE.out (by simp [Value.ownBlock])
  obtain ⟨B4, d4, rfl⟩ := OwL.slice h1
  have K6 := Lib.hid (K.out.below bq HL.out)
  have O6 := Lib.hid h1
  have N6 := Lib.hid h2
  have F6 := Lib.hid (show FrL [b] w w6 from FrL.of_below (BE.out.trans bq))
  clear h1 h2 h3 bq k19
  have k19 := K6.out.at (i := 19) rfl
  have z19 := K6.out.frozen 19
  go_wp2
  have hl := HL.out
  have hb4 : b ∉ f4 := fun h => by have := (N6.out.2 _ h).1; omega
  refine bodyPost_ret (v := .tuple #[]) (by simp [results, Try.results126, go_sem]) rfl ?_
  refine ⟨rfl, _, f4, by have h := K6.out.set (i := 19) (v := .slice B4 ([] ++ [upWord]).length d4) (by simp); simpa using h, OwL.set EMsgWord.framed O6.out hb4, by have h := N6.out; simpa [size_set] using h, F6.out.set _ (by simp)⟩
set_option maxRecDepth 100000 in
set_option maxHeartbeats 1000000 in
theorem gone1_n (b : Nat) (u0 : Value) (gate : Int) (up : Bool) (v1 v2 v3 : Value) (jam : Int) (w : World) (hk : Blk w b [u0, .int .i64 4, .int .i64 1, .int .i64 9, .int .i64 gate, .bool up, v1, .int .i64 9, .int .i64 1, .int .i64 9, v2, .int .i64 9, .int .i64 1, .int .i64 9, v3, .int .i64 6, .int .i64 0, .int .i64 999, .int .i64 jam, .slice none 0 0]) : Calls Try.prog 123 #[.pointer (some ⟨b, 0, none⟩)] w (HapPost w b u0 gate []) := by
  have K := Lib.hid hk
  clear hk
  go_enter Try.func123, Try.ntmps123
  go_wp2_with fail
  refine (forget_n b u0 gate up v1 v2 v3 jam _ _ K.out).mono ?_
  rintro e w1 ⟨rfl, u1, u2, u3, f1, f2, f3, k1, o1, o2, o3, n1, r1⟩
  have K1 := Lib.hid k1
  have O1 := Lib.hid o1
  have O2 := Lib.hid o2
  have O3 := Lib.hid o3
  have N1 := Lib.hid n1
  have R1 := Lib.hid r1
  clear k1 o1 o2 o3 n1 r1
  go_wp2
  refine bodyPost_ret (v := .tuple #[]) (by simp [results, Try.results123, go_sem]) rfl ?_
  exact ⟨rfl, u1, u2, u3, _, f1, f2, f3, [], K1.out, O1.out, O2.out, O3.out, OwL.nil _, by rw [List.append_nil]; exact N1.out, R1.out⟩
set_option maxRecDepth 100000 in
set_option maxHeartbeats 1000000 in
theorem rise1_n (b : Nat) (u0 : Value) (gate : Int) (up : Bool) (v1 v2 v3 : Value) (jam : Int) (w : World) (hk : Blk w b [u0, .int .i64 4, .int .i64 1, .int .i64 9, .int .i64 gate, .bool up, v1, .int .i64 9, .int .i64 1, .int .i64 9, v2, .int .i64 9, .int .i64 1, .int .i64 9, v3, .int .i64 6, .int .i64 0, .int .i64 999, .int .i64 jam, .slice none 0 0]) : Calls Try.prog 125 #[.pointer (some ⟨b, 0, none⟩)] w (HapPost w b u0 gate [upWord]) := by
  have K := Lib.hid hk
  have HL := Lib.hid hk.lt
  clear hk
  go_enter Try.func125, Try.ntmps125
  go_wp2_with fail
  refine (forget_n b u0 gate up v1 v2 v3 jam _ _ K.out).mono ?_
  rintro e w1 ⟨rfl, u1, u2, u3, f1, f2, f3, k1, o1, o2, o3, n1, r1⟩
  have K1 := Lib.hid k1
  have O1 := Lib.hid o1
  have O2 := Lib.hid o2
  have O3 := Lib.hid o3
  have N1 := Lib.hid n1
  have R1 := Lib.hid r1
  clear k1 o1 o2 o3 n1 r1
  go_wp2_with fail
  refine (say_n b u0 gate u1 u2 u3 _ K1.out).mono ?_
  rintro e w2 ⟨rfl, sv, f4, k2, o4, n4, r2⟩
  have K2 := Lib.hid k2
  have O4 := Lib.hid o4
  have N4 := Lib.hid n4
  have R2 := Lib.hid r2
  clear k2 o4 n4 r2
  go_wp2
  have hl := HL.out
  have hnb : ∀ c ∈ f1 ++ (f2 ++ f3), c ∉ [b] := fun c hc => by have := (N1.out.2 c hc).1; simp; omega
  refine bodyPost_ret (v := .tuple #[]) (by simp [results, Try.results125, go_sem]) rfl ?_
  refine ⟨rfl, u1, u2, u3, sv, f1, f2, f3, f4, K2.out, O1.out.frl R2.out (fun c hc => hnb c (by simp [hc])), O2.out.frl R2.out (fun c hc => hnb c (by simp [hc])), O3.out.frl R2.out (fun c hc => hnb c (by simp [hc])), O4.out, ?_, R1.out.trans R2.out⟩
  rw [← List.append_assoc f2 f3 f4, ← List.append_assoc]
  exact N1.out.app N4.out R1.out.size R2.out.size
end Go.Proofs.Ythdjjgbjemaabaa
