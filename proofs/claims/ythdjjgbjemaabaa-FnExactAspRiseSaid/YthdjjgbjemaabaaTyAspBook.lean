/-
  Words and the laws' helpers of AspBook and of lists of it. (Written by wip/tools/gentype.py.)
-/
import Derived.Test.YthdjjgbjemaabaaKin
import Derived.Test.YthdjjgbjemaabaaTyAspGate
namespace Go.Proofs.Ythdjjgbjemaabaa
open Go.ChangeShapes Go.WideShapes Go.ChangeAt Go.RowKit
set_option linter.unusedVariables false
set_option linter.unusedSimpArgs false

structure DAspBook where
  xWish : List Int
  xGates : List DAspGate
def FAspBook (w : World) (cs : List Value) (x : DAspBook) : Prop := ∃ v0 v1 : Value, cs = [v0, v1] ∧ RdI w v0 x.xWish ∧ RdAspGateS w v1 x.xGates
def EAspBook (w : World) (f : List Nat) (cs : List Value) (x : DAspBook) : Prop := ∃ (v0 v1 : Value) (f0 f1 : List Nat), cs = [v0, v1] ∧ OwIn w f0 v0 x.xWish ∧ OwAspGateS w f1 v1 x.xGates ∧ f = f0 ++ f1
theorem FAspBook.below {w w' : World} {cs : List Value} {x : DAspBook} (h : FAspBook w cs x) (hb : Below w.heap.size w w') : FAspBook w' cs x := by
  obtain ⟨v0, v1, rfl, h0, h1⟩ := h
  exact ⟨v0, v1, rfl, h0.below hb, h1.below hb⟩
theorem EAspBook.framed : Framed EAspBook := by
  rintro w w' f cs x ⟨v0, v1, f0, f1, rfl, h0, h1, rfl⟩ hb
  exact ⟨_, _, _, _, rfl, h0.keep (fun b h => hb b (by simp [h])), h1.keep (fun b h => hb b (by simp [h])), rfl⟩
theorem EAspBook.inside : Inside EAspBook := by
  rintro w f cs x ⟨v0, v1, f0, f1, rfl, h0, h1, rfl⟩ b hb
  simp only [List.mem_append] at hb
  rcases hb with hb | hb
  · exact h0.inside b hb
  · exact h1.inside b hb
theorem EAspBook.rd {w : World} {f : List Nat} {cs : List Value} {x : DAspBook} (h : EAspBook w f cs x) : FAspBook w cs x := by
  obtain ⟨v0, v1, f0, f1, rfl, h0, h1, rfl⟩ := h
  exact ⟨v0, v1, rfl, h0.rd, h1.rd⟩
abbrev RdAspBookS (w : World) (v : Value) (xs : List DAspBook) : Prop := RdS 2 FAspBook w v xs
def OwAspBookS (w : World) (f : List Nat) (v : Value) (xs : List DAspBook) : Prop := OwL 38 2 EAspBook w f v xs
theorem RdAspBookS.below {w w' : World} {v : Value} {xs : List DAspBook} (h : RdAspBookS w v xs) (hb : Below w.heap.size w w') : RdAspBookS w' v xs := RdS.below (fun _ _ h => h.below hb) h hb
theorem RdAspBookS.slice {w : World} {v : Value} {xs : List DAspBook} (h : RdAspBookS w v xs) : ∃ A c, v = .slice A xs.length c := RdS.slice h
theorem OwAspBookS.keep {w w' : World} {f : List Nat} {v : Value} {xs : List DAspBook} (h : OwAspBookS w f v xs) (hb : ∀ b ∈ f, w'.heap[b]? = w.heap[b]?) : OwAspBookS w' f v xs := OwL.keep EAspBook.framed h hb
theorem OwAspBookS.inside {w : World} {f : List Nat} {v : Value} {xs : List DAspBook} (h : OwAspBookS w f v xs) : ∀ b ∈ f, b < w.heap.size := OwL.inside EAspBook.inside h
theorem OwAspBookS.rd {w : World} {f : List Nat} {v : Value} {xs : List DAspBook} (h : OwAspBookS w f v xs) : RdAspBookS w v xs := OwL.rd (fun _ _ _ h => h.rd) h
def zAspBook (x : DAspBook) : Nat := x.xWish.length + zL zAspGate x.xGates

set_option maxHeartbeats 1000000 in
theorem szAspBook_z (cs : List Value) (x : DAspBook) (left : Int) (w : World) (h : FAspBook w cs x) (hl : 0 ≤ left ∧ left ≤ 1048576) :
    Calls Try.prog 33 #[.agg cs.toArray, .int .i64 left] w fun e w' => e = .returned (.int .i64 (szR left (zAspBook x))) ∧ Below w.heap.size w w' := by
  obtain ⟨v0, v1, rfl, h0, h1⟩ := h
  have Hz := Lib.hid (show zAspBook x = x.xWish.length + zL zAspGate x.xGates from rfl)
  generalize zAspBook x = zx at Hz ⊢
  have K := Lib.hid (Blk.new (w := w) (b := w.heap.size) #[v0, v1] 48 rfl)
  have HB := Lib.hid ((Below.refl w.heap.size w).alloc (Nat.le_refl _) (.cells #[v0, v1] 48))
  have H0 := Lib.hid h0
  have H1 := Lib.hid h1
  clear h0 h1
  go_enter Try.func33, Try.ntmps33
  go_wp2_with fail
  refine (szIntS_z _ x.xWish _ _ (H0.out.below HB.out) ⟨by omega, by omega⟩).mono ?_
  rintro e w1 ⟨rfl, b1⟩
  have K := Lib.hid (K.out.keep b1)
  have HB := Lib.hid (HB.out.trans (b1.mono HB.out.size))
  clear b1
  have hr0 := szR_cases left (x.xWish.length) (by omega)
  generalize szR left (x.xWish.length) = r0 at *
  rcases hr0 with ⟨rfl, hr0⟩ | ⟨hr0, hs0, ht0⟩
  · have Q := Lib.hid hr0
    go_wp2
    go_ret
    refine ⟨retI ?_, HB.out⟩
    have hz := Hz.out
    have hq := Q.out
    rw [szR_no (by omega)]
  have pc1 := K.out.at (i := 1) rfl
  go_wp2_with fail
  refine (szAspGateS_z _ x.xGates _ _ (H1.out.below HB.out) ⟨by omega, by omega⟩).mono ?_
  rintro e w2 ⟨rfl, b2⟩
  clear pc1
  have K := Lib.hid (K.out.keep b2)
  have HB := Lib.hid (HB.out.trans (b2.mono HB.out.size))
  clear b2
  have hr1 := szR_cases r0 (zL zAspGate x.xGates) (by omega)
  generalize szR r0 (zL zAspGate x.xGates) = r1 at *
  rcases hr1 with ⟨rfl, hr1⟩ | ⟨hr1, hs1, ht1⟩
  · have Q := Lib.hid hr1
    have T0 := Lib.hid ht0
    go_wp2
    go_ret
    refine ⟨retI ?_, HB.out⟩
    have hz := Hz.out
    have hq := Q.out
    have t0 := T0.out
    rw [szR_no (by omega)]
  have hz := Hz.out
  have Hf := Lib.hid (show szR left zx = r1 by rw [szR_yes (by omega)]; omega)
  clear hz
  go_wp2
  go_ret
  exact ⟨retI Hf.out.symm, HB.out⟩

set_option maxRecDepth 100000 in
set_option maxHeartbeats 2000000 in
theorem toAspBook_n (cs : List Value) (x : DAspBook) (w : World) (h : FAspBook w cs x) (hz : zAspBook x ≤ 1048576) :
    Calls Try.prog 35 #[.agg cs.toArray] w fun e w' => ∃ cs' f, e = .returned (.agg cs'.toArray) ∧ EAspBook w' f cs' x ∧ Nw w.heap.size w'.heap.size f ∧ Below w.heap.size w w' := by
  obtain ⟨v0, v1, rfl, h0, h1⟩ := h
  simp only [zAspBook] at hz
  have H0 := Lib.hid h0
  have H1 := Lib.hid h1
  clear h0 h1
  have Hz := Lib.hid hz
  clear hz
  have KA := Lib.hid (((Blk.new (w := w) (b := w.heap.size) #[v0, v1] 48 rfl).alloc (.cells #[.slice none 0 0, .slice none 0 0] 38)).alloc (.cells #[.slice none 0 0, .slice none 0 0] 38))
  have KR := Lib.hid ((Blk.new (w := w.alloc (.cells #[v0, v1] 48)) (b := w.heap.size + 1) #[.slice none 0 0, .slice none 0 0] 38 (by simp)).alloc (.cells #[.slice none 0 0, .slice none 0 0] 38))
  have KO := Lib.hid (Blk.new (w := (w.alloc (.cells #[v0, v1] 48)).alloc (.cells #[.slice none 0 0, .slice none 0 0] 38)) (b := w.heap.size + 1 + 1) #[.slice none 0 0, .slice none 0 0] 38 (by simp))
  have HB := Lib.hid (below3 w (.cells #[v0, v1] 48) (.cells #[.slice none 0 0, .slice none 0 0] 38) (.cells #[.slice none 0 0, .slice none 0 0] 38))
  have HS : w.heap.size + 3 ≤ (((w.alloc (.cells #[v0, v1] 48)).alloc (.cells #[.slice none 0 0, .slice none 0 0] 38)).alloc (.cells #[.slice none 0 0, .slice none 0 0] 38)).heap.size := by simp
  go_enter Try.func35, Try.ntmps35
  go_wp2_with fail
  refine (toIntS_n _ x.xWish _ (H0.out.below (by exact HB.out)) (by have := Hz.out; omega)).mono ?_
  rintro e w1 ⟨u0, g0, rfl, o0, n0, b1⟩
  obtain ⟨A0, c0, rfl⟩ := o0.rd.slice
  have KA := Lib.hid (KA.out.keep b1)
  have KR := Lib.hid (KR.out.keep b1)
  have KO := Lib.hid (KO.out.keep b1)
  have HS : w.heap.size + 3 ≤ w1.heap.size := Nat.le_trans HS b1.size
  have S1 := Lib.hid HS
  have FR0 := Lib.hid (FrL.refl [w.heap.size + 1, w.heap.size + 1 + 1] w1)
  have HB := Lib.hid (HB.out.trans (b1.mono HB.out.size))
  have O0 := Lib.hid o0
  have N0 := Lib.hid (n0.mono (lo' := w.heap.size + 3) (by simp) (Nat.le_refl _))
  clear o0 n0 b1
  have ac0 := KA.out.at (i := 0) rfl
  have oc0 := KO.out.at (i := 0) rfl
  have of0 := KO.out.frozen 0
  have ac1 := KA.out.at (i := 1) rfl
  have oc1 := KO.out.at (i := 1) rfl
  have KA := Lib.hid (KA.out.far (b' := w.heap.size + 1 + 1) (o := 0) (v := .slice A0 x.xWish.length c0) (by omega))
  have KR := Lib.hid (KR.out.far (b' := w.heap.size + 1 + 1) (o := 0) (v := .slice A0 x.xWish.length c0) (by omega))
  have KO := Lib.hid (KO.out.set (i := 0) (v := .slice A0 x.xWish.length c0) (by simp))
  have FR0 := Lib.hid (FR0.out.set (g := w.heap.size + 1 + 1) (o := 0) (.slice A0 x.xWish.length c0) (by simp))
  have HB := Lib.hid (HB.out.setCell (p := ⟨w.heap.size + 1 + 1, 0, none⟩) (by simp <;> omega) (.slice A0 x.xWish.length c0))
  have HS : w.heap.size + 3 ≤ ((w1.setCell ⟨w.heap.size + 1 + 1, 0, none⟩ (.slice A0 x.xWish.length c0))).heap.size := by simpa [size_set] using HS
  go_wp2_with fail
  clear ac0 oc0 ac1 oc1 of0
  refine (toAspGateS_n _ x.xGates _ (H1.out.below (by exact HB.out)) (by have := Hz.out; omega)).mono ?_
  rintro e w2 ⟨u1, g1, rfl, o1, n1, b2⟩
  obtain ⟨A1, c1, rfl⟩ := o1.rd.slice
  have KA := Lib.hid (KA.out.keep b2)
  have KR := Lib.hid (KR.out.keep b2)
  have KO := Lib.hid (KO.out.keep b2)
  have HS : w.heap.size + 3 ≤ w2.heap.size := Nat.le_trans HS b2.size
  have S2 := Lib.hid HS
  have Y1 := Lib.hid (show w1.heap.size ≤ w2.heap.size by have := b2.size; simpa [size_set] using this)
  have FR0 := Lib.hid (FR0.out.trans (FrL.of_below b2))
  have FR1 := Lib.hid (FrL.refl [w.heap.size + 1, w.heap.size + 1 + 1] w2)
  have HB := Lib.hid (HB.out.trans (b2.mono HB.out.size))
  have O1 := Lib.hid o1
  have N1 := Lib.hid (n1.mono (lo' := w1.heap.size) (by simp [size_set]) (Nat.le_refl _))
  clear o1 n1 b2
  have ac0 := KA.out.at (i := 0) rfl
  have oc0 := KO.out.at (i := 0) rfl
  have rc0 := KR.out.at (i := 0) rfl
  have rf0 := KR.out.frozen 0
  have ac1 := KA.out.at (i := 1) rfl
  have oc1 := KO.out.at (i := 1) rfl
  have of1 := KO.out.frozen 1
  have rc1 := KR.out.at (i := 1) rfl
  have rf1 := KR.out.frozen 1
  have KA := Lib.hid (KA.out.far (b' := w.heap.size + 1 + 1) (o := 1) (v := .slice A1 x.xGates.length c1) (by omega))
  have KR := Lib.hid (KR.out.far (b' := w.heap.size + 1 + 1) (o := 1) (v := .slice A1 x.xGates.length c1) (by omega))
  have KO := Lib.hid (KO.out.set (i := 1) (v := .slice A1 x.xGates.length c1) (by simp))
  have FR0 := Lib.hid (FR0.out.set (g := w.heap.size + 1 + 1) (o := 1) (.slice A1 x.xGates.length c1) (by simp))
  have FR1 := Lib.hid (FR1.out.set (g := w.heap.size + 1 + 1) (o := 1) (.slice A1 x.xGates.length c1) (by simp))
  have HB := Lib.hid (HB.out.setCell (p := ⟨w.heap.size + 1 + 1, 1, none⟩) (by simp <;> omega) (.slice A1 x.xGates.length c1))
  have FR0 := Lib.hid (FR0.out.set (g := w.heap.size + 1) (o := 0) (.slice A0 x.xWish.length c0) (by simp))
  have FR1 := Lib.hid (FR1.out.set (g := w.heap.size + 1) (o := 0) (.slice A0 x.xWish.length c0) (by simp))
  have HB := Lib.hid (HB.out.setCell (p := ⟨w.heap.size + 1, 0, none⟩) (by simp <;> omega) (.slice A0 x.xWish.length c0))
  have FR0 := Lib.hid (FR0.out.set (g := w.heap.size + 1) (o := 1) (.slice A1 x.xGates.length c1) (by simp))
  have FR1 := Lib.hid (FR1.out.set (g := w.heap.size + 1) (o := 1) (.slice A1 x.xGates.length c1) (by simp))
  have HB := Lib.hid (HB.out.setCell (p := ⟨w.heap.size + 1, 1, none⟩) (by simp <;> omega) (.slice A1 x.xGates.length c1))
  clear KR
  go_wp2
  refine bodyPost_ret (v := .agg #[.slice A0 x.xWish.length c0, .slice A1 x.xGates.length c1]) (by simp [results, Try.results35, go_sem, rc0, rc1]) rfl ⟨[.slice A0 x.xWish.length c0, .slice A1 x.xGates.length c1], _, rfl, ⟨_, _, _, _, rfl, O0.out.keep ?_, O1.out.keep ?_, rfl⟩, ?_, ?_⟩
  · exact (fun b hb => FR0.out.block b (O0.out.inside b hb) (by have h1 := (N0.out.2 b hb).1; simp only [List.mem_cons, List.not_mem_nil, or_false, not_or]; omega))
  · exact (fun b hb => FR1.out.block b (O1.out.inside b hb) (by have h1 := (N1.out.2 b hb).1; have h2 := S1.out; simp only [List.mem_cons, List.not_mem_nil, or_false, not_or]; omega))
  · have h := (N0.out.app N1.out (S1.out) Y1.out)
    try simp only [List.append_assoc] at h ⊢
    exact h.mono (by omega) (by simp only [size_set]; omega)
  · exact HB.out

set_option maxHeartbeats 2000000 in
theorem eqAspBook_s (cs ds : List Value) (x : DAspBook) (w : World) (h : FAspBook w cs x) (k : FAspBook w ds x) (hz : zAspBook x ≤ 1048576) :
    Calls Try.prog 28 #[.agg cs.toArray, .agg ds.toArray] w fun e w' => e = .returned (.bool true) ∧ Below w.heap.size w w' := by
  obtain ⟨v0, v1, rfl, h0, h1⟩ := h
  obtain ⟨u0, u1, rfl, k0, k1⟩ := k
  simp only [zAspBook] at hz
  have Hz := Lib.hid hz
  clear hz
  have KA := Lib.hid ((Blk.new (w := w) (b := w.heap.size) #[v0, v1] 38 rfl).alloc (.cells #[u0, u1] 38))
  have KB := Lib.hid (Blk.new (w := w.alloc (.cells #[v0, v1] 38)) (b := w.heap.size + 1) #[u0, u1] 38 (by simp))
  have HB := Lib.hid (below2 w (.cells #[v0, v1] 38) (.cells #[u0, u1] 38))
  have H0 := Lib.hid h0
  have K0 := Lib.hid k0
  have H1 := Lib.hid h1
  have K1 := Lib.hid k1
  clear h0 k0 h1 k1
  go_enter Try.func28, Try.ntmps28
  go_wp2_with fail
  refine (eqIntS_s _ _ x.xWish _ (H0.out.below (by exact HB.out)) (K0.out.below (by exact HB.out)) (by have := Hz.out; omega)).mono ?_
  rintro e w1 ⟨rfl, b1⟩
  have KA := Lib.hid (KA.out.keep b1)
  have KB := Lib.hid (KB.out.keep b1)
  have HB := Lib.hid (HB.out.trans (b1.mono HB.out.size))
  clear b1
  have ac1 := KA.out.at (i := 1) rfl
  have bc1 := KB.out.at (i := 1) rfl
  go_wp2_with fail
  refine (eqAspGateS_s _ _ x.xGates _ (H1.out.below (by exact HB.out)) (K1.out.below (by exact HB.out)) (by have := Hz.out; omega)).mono ?_
  rintro e w2 ⟨rfl, b2⟩
  clear ac1 bc1
  have KA := Lib.hid (KA.out.keep b2)
  have KB := Lib.hid (KB.out.keep b2)
  have HB := Lib.hid (HB.out.trans (b2.mono HB.out.size))
  clear b2
  go_wp2
  go_ret
  exact ⟨rfl, HB.out⟩

theorem cells_AspBook : Try.prog.cellsOf 48 = 2 := by kernel_rfl
set_option maxRecDepth 100000 in
theorem read_AspBook {H : Type} {enc : TypeId × Value → H} {w : World} {base : Nat} {spare : Nat → Bool} {held : Bool} (n : Nat) (cs : List Value) (y : DataW H × List MemPlace) (hcs : cs.length = 2)
    (h : DataW.trod enc Try.prog w base spare held n 48 cs = some y) : ∃ x : DAspBook, FAspBook w cs x := by
  obtain ⟨ys, n', _, _, _, hxl, hg⟩ := DataW.trod_struct Try.underlying48 h
  match cs, hcs with
  | [c0, c1], _ =>
    match ys, hxl with
    | [y0, y1], _ =>
      have h0 : DataW.trod enc Try.prog w base spare held n' 35 (([c0, c1].drop 0).take (Try.prog.cellsOf 35)) = some y0 := hg 0 _ rfl
      have h1 : DataW.trod enc Try.prog w base spare held n' 46 (([c0, c1].drop 1).take (Try.prog.cellsOf 46)) = some y1 := hg 1 _ rfl
      simp only [cellsInts, cells_AspGateS, List.drop_zero, List.drop_succ_cons, List.take_succ_cons, List.take_zero] at h0 h1
      obtain ⟨a0, g0⟩ := open_rdi h0
      obtain ⟨a1, g1⟩ := open_rds Try.underlying46 cells_AspGate (fun n cs y hc h => read_AspGate n cs y hc h) h1
      exact ⟨⟨a0, a1⟩, _, _, rfl, g0, g1⟩
end Go.Proofs.Ythdjjgbjemaabaa
