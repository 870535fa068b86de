/-
  Keys: are they ok, and which one has a destination? The program's answers and the model's. (Written by wip/tools/genkeyok.py.)
-/
import Derived.Test.YtbceikhmoblacaaAllI
import Derived.Test.YtbceikhmoblacaaTyKeyRow
import Derived.Laws.AppendOwn
import Derived.Stop.Asserts
import Derived.BigQuiet
namespace Go.Proofs.Ytbceikhmoblacaa
open Go.ChangeShapes Go.WideShapes Go.ChangeAt Go.RowKit
set_option linter.unusedVariables false
set_option linter.unusedSimpArgs false

def rowOk (k : DKeyRow) : Bool := inB k.xCtx 1 9 && (decide (0 ≤ k.xLow) && (decide (k.xLow ≤ k.xHigh) && (decide (k.xHigh ≤ 999) && inB k.xMode 1 3)))
/-- May k stand behind o? -/
def behind (o k : DKeyRow) : Bool := decide (o.xCtx < k.xCtx) && !(decide (k.xLow ≤ o.xHigh) && decide (o.xLow ≤ k.xHigh))
noncomputable def keyGood (xs : List DKeyRow) (j : Nat) (k : DKeyRow) : Bool := rowOk k && allI (fun _ o => behind o k) (xs.take j)
noncomputable def keyOkF (xs : List DKeyRow) : Bool := decide (xs.length ≤ 4) && allI (keyGood xs) xs
/-- The place of the first that has n. -/
def keyAt (n : Int) : Nat → List DKeyRow → Int
  | _, [] => -1
  | i, k :: ks => if inB n k.xLow k.xHigh = true then (i : Int) else keyAt n (i + 1) ks
noncomputable def keyMatchF (xs : List DKeyRow) (n : Int) : Int := if keyOkF xs = true then keyAt n 0 xs else -1

set_option maxHeartbeats 400000 in
theorem reach_any (c l h : Int) (w : World) : Calls Try.prog 257 #[.agg #[.int .i64 c, .int .i64 l, .int .i64 h]] w fun e w' => e = .returned (.agg #[.int .i64 c, .int .i64 l, .int .i64 h]) ∧ Below w.heap.size w w' := by
  go_enter Try.func257, Try.ntmps257
  go_wp2
  refine bodyPost_ret (v := .agg #[.int .i64 c, .int .i64 l, .int .i64 h]) (by simp [results, Try.results257, go_sem]) rfl ⟨rfl, ?_⟩
  repeat first | with_reducible exact Below.refl _ _ | with_reducible assumption | with_reducible refine Below.setCell ?_ (by simp <;> omega) _ | with_reducible refine Below.alloc ?_ (by simp <;> omega) _ | with_reducible refine Below.drew ?_
set_option maxRecDepth 100000 in
set_option maxHeartbeats 800000 in
theorem keyReachOf_yes (k : DKeyRow) (w : World) (h : inB k.xMode 1 3 = true) : Calls Try.prog 93 #[.agg #[.int .i64 k.xCtx, .int .i64 k.xLow, .int .i64 k.xHigh, .int .i64 k.xMode]] w fun e w' => e = .returned (.tuple #[.agg #[.int .i64 k.xCtx, .int .i64 k.xLow, .int .i64 k.xHigh], .bool true]) ∧ Below w.heap.size w w' := by
  have hm : k.xMode = 1 ∨ k.xMode = 2 ∨ k.xMode = 3 := by have := inB_iff.1 h; omega
  clear h
  have ha1 : ∀ (v : Value) (w : World), (Instr.typeAssert (.iface 252 v) 20 201 true).run Try.prog w = .ok (.tuple #[.iface 252 v, .bool true]) w := fun v w => run_typeAssert_hasB Try.underlying201 (by kernel_rfl) v _ w
  have ha2 : ∀ (v : Value) (w : World), (Instr.typeAssert (.iface 253 v) 20 201 true).run Try.prog w = .ok (.tuple #[.iface 253 v, .bool true]) w := fun v w => run_typeAssert_hasB Try.underlying201 (by kernel_rfl) v _ w
  have ha3 : ∀ (v : Value) (w : World), (Instr.typeAssert (.iface 254 v) 20 201 true).run Try.prog w = .ok (.tuple #[.iface 254 v, .bool true]) w := fun v w => run_typeAssert_hasB Try.underlying201 (by kernel_rfl) v _ w
  have hr1 : ∀ (w : World), (method 410 252 (.agg #[.int .i64 k.xCtx, .int .i64 k.xLow, .int .i64 k.xHigh]) "loop.example/trunk/impl.reach").run Try.prog w = .ok (257, .agg #[.int .i64 k.xCtx, .int .i64 k.xLow, .int .i64 k.xHigh]) w := fun _ => by kernel_rfl
  have hr2 : ∀ (w : World), (method 410 253 (.agg #[.int .i64 k.xCtx, .int .i64 k.xLow, .int .i64 k.xHigh]) "loop.example/trunk/impl.reach").run Try.prog w = .ok (257, .agg #[.int .i64 k.xCtx, .int .i64 k.xLow, .int .i64 k.xHigh]) w := fun _ => by kernel_rfl
  have hr3 : ∀ (w : World), (method 410 254 (.agg #[.int .i64 k.xCtx, .int .i64 k.xLow, .int .i64 k.xHigh]) "loop.example/trunk/impl.reach").run Try.prog w = .ok (257, .agg #[.int .i64 k.xCtx, .int .i64 k.xLow, .int .i64 k.xHigh]) w := fun _ => by kernel_rfl
  rcases hm with hm | hm | hm
  all_goals
    rw [hm]
    clear hm
    go_enter Try.func93, Try.ntmps93
    go_wp2_with (go_at_call 161; go_in)
    refine (reach_any _ _ _ _).mono ?_
    rintro e w1 ⟨rfl, b1⟩
    have r0 := b1.cell (p := ⟨w.heap.size + 1, 0, none⟩) (by simp <;> omega)
    have r1 := b1.cell (p := ⟨w.heap.size + 1, 1, none⟩) (by simp <;> omega)
    have r2 := b1.cell (p := ⟨w.heap.size + 1, 2, none⟩) (by simp <;> omega)
    have z0 := b1.frozen (p := ⟨w.heap.size + 1, 0, none⟩) (by simp <;> omega)
    have z1 := b1.frozen (p := ⟨w.heap.size + 1, 1, none⟩) (by simp <;> omega)
    have z2 := b1.frozen (p := ⟨w.heap.size + 1, 2, none⟩) (by simp <;> omega)
    have hb0 : Below w.heap.size w w1 := by
      refine Below.trans ?_ (b1.mono (by simp; omega))
      repeat first | with_reducible exact Below.refl _ _ | with_reducible assumption | with_reducible refine Below.setCell ?_ (by simp <;> omega) _ | with_reducible refine Below.alloc ?_ (by simp <;> omega) _ | with_reducible refine Below.drew ?_
    have HB0 := Lib.hid hb0
    clear b1 hb0
    go_wp2
    have hb0 := HB0.out
    refine bodyPost_ret (v := .tuple #[.agg #[.int .i64 k.xCtx, .int .i64 k.xLow, .int .i64 k.xHigh], .bool true]) (by simp [results, Try.results93, go_sem, r0, r1, r2]) rfl ⟨rfl, ?_⟩
    repeat first | with_reducible exact Below.refl _ _ | with_reducible assumption | with_reducible refine Below.setCell ?_ (by simp <;> omega) _ | with_reducible refine Below.alloc ?_ (by simp <;> omega) _ | with_reducible refine Below.drew ?_
set_option maxRecDepth 100000 in
set_option maxHeartbeats 800000 in
theorem keyReachOf_no (k : DKeyRow) (w : World) (h : inB k.xMode 1 3 = false) : Calls Try.prog 93 #[.agg #[.int .i64 k.xCtx, .int .i64 k.xLow, .int .i64 k.xHigh, .int .i64 k.xMode]] w fun e w' => e = .returned (.tuple #[.agg #[.int .i64 0, .int .i64 0, .int .i64 0], .bool false]) ∧ Below w.heap.size w w' := by
  have hm : (k.xMode == 1) = false ∧ (k.xMode == 2) = false ∧ (k.xMode == 3) = false := by have := inB_not.1 h; simp; omega
  obtain ⟨m1, m2, m3⟩ := hm
  clear h
  have ha0 : ∀ (w : World), (Instr.typeAssert .nilIface 20 201 true).run Try.prog w = .ok (.tuple #[.nilIface, .bool false]) w := fun w => by kernel_rfl
  go_enter Try.func93, Try.ntmps93
  go_wp2
  refine bodyPost_ret (v := .tuple #[.agg #[.int .i64 0, .int .i64 0, .int .i64 0], .bool false]) (by simp [results, Try.results93, go_sem]) rfl ⟨rfl, ?_⟩
  repeat first | with_reducible exact Below.refl _ _ | with_reducible assumption | with_reducible refine Below.setCell ?_ (by simp <;> omega) _ | with_reducible refine Below.alloc ?_ (by simp <;> omega) _ | with_reducible refine Below.drew ?_
set_option maxHeartbeats 400000 in
theorem keyFits_any (c l h : Int) (w : World) : Calls Try.prog 94 #[.agg #[.int .i64 c, .int .i64 l, .int .i64 h]] w fun e w' => e = .returned (.bool (inB c 1 9 && (decide (0 ≤ l) && (decide (l ≤ h) && decide (h ≤ 999))))) ∧ Below w.heap.size w w' := by
  go_enter Try.func94, Try.ntmps94
  go_wp2_with (go_at_call 87; refine (frmIn_any _ _ _ _).mono ?_; rintro e w' ⟨rfl, rfl⟩)
  all_goals
    go_ret
    exact ⟨ret_bool (by simp_all <;> (intros; omega)), (Below.refl _ _).alloc (Nat.le_refl _) _⟩
/-- The cells of a range's reach. -/
def c3 (o : DKeyRow) : List Value := [.int .i64 o.xCtx, .int .i64 o.xLow, .int .i64 o.xHigh]
def FReach (w : World) (cs : List Value) (o : DKeyRow) : Prop := cs = c3 o
theorem c3_at : ∀ (ys : List DKeyRow) (j : Nat) (hj : j < ys.length), ((ys.flatMap c3).drop (j * 3)).take 3 = c3 ys[j]
  | y :: ys, 0, _ => by simp [c3]
  | y :: ys, j + 1, hj => by
    have h := c3_at ys j (by simpa using hj)
    rw [List.flatMap_cons, Nat.succ_mul, Nat.add_comm, ← List.drop_drop]
    simpa [c3] using h
theorem row_reach {w : World} {base : Nat} {v : Value} {ys : List DKeyRow} (h : w.ownsRow base 128 3 v ys.length (ys.flatMap c3)) : RdS 3 FReach w v ys := by
  have ho : OwL 128 3 (fun w f cs o => cs = c3 o ∧ f = []) w (v.ownBlock.toList ++ (List.replicate ys.length ([] : List Nat)).flatten) v ys := by
    refine ⟨ys.flatMap c3, List.replicate ys.length [], row_mono h (Nat.zero_le _), by simp, rfl, fun j x f hx hf => ?_⟩
    obtain ⟨hj, rfl⟩ := List.getElem?_eq_some_iff.1 hx
    refine ⟨c3_at ys j hj, ?_⟩
    exact List.eq_of_mem_replicate (List.mem_of_getElem? hf)
  exact ho.rd (fun _ _ _ h => h.1)
theorem reach_below {w w' : World} {v : Value} {ys : List DKeyRow} (h : RdS 3 FReach w v ys) (hb : Below w.heap.size w w') : RdS 3 FReach w' v ys := RdS.below (E := FReach) (w := w) (w' := w') (fun cs x (h : cs = c3 x) => h) h hb
set_option maxHeartbeats 800000 in
theorem keyFollows_r (k : DKeyRow) (v : Value) (ys : List DKeyRow) (w : World) (hv : RdS 3 FReach w v ys) : Calls Try.prog 95 #[.agg #[.int .i64 k.xCtx, .int .i64 k.xLow, .int .i64 k.xHigh], v] w fun e w' => e = .returned (.bool (allI (fun _ o => behind o k) ys)) ∧ Below w.heap.size w w' := by
  obtain ⟨A, c, rfl⟩ := RdS.slice hv
  have hc := RdS.cap hv
  have Hv := Lib.hid hv
  clear hv
  have hbe : ∀ o, behind o k = (decide (o.xCtx < k.xCtx) && !(decide (k.xLow ≤ o.xHigh) && decide (o.xLow ≤ k.xHigh))) := fun _ => rfl
  have Hbe := Lib.hid hbe
  clear hbe
  generalize hl : ys.length = n at *
  have Hl := Lib.hid hl
  clear hl
  have K := Lib.hid (Blk.new (w := w) (b := w.heap.size) #[.int .i64 k.xCtx, .int .i64 k.xLow, .int .i64 k.xHigh] 128 rfl)
  have HB := Lib.hid ((Below.refl w.heap.size w).alloc (Nat.le_refl _) (.cells #[.int .i64 k.xCtx, .int .i64 k.xLow, .int .i64 k.xHigh] 128))
  go_enter Try.func95, Try.ntmps95
  go_wp2
  go_loopw [9] (fun i w1 => ∃ j : Nat, j ≤ n ∧ i = .int .i64 j ∧ Blk w1 w.heap.size [.int .i64 k.xCtx, .int .i64 k.xLow, .int .i64 k.xHigh] ∧ Below w.heap.size w w1 ∧ UpTo (fun _ o => behind o k) ys j) (fun i _ => n - (intOf i).toNat)
  case atStart => exact ⟨0, by omega, rfl, K.out, HB.out, UpTo.zero⟩
  case round =>
    obtain ⟨j, hj, rfl, hk1, hb1, hu⟩ := hrel
    have Hu := Lib.hid hu
    have K1 := Lib.hid hk1
    have HB1 := Lib.hid hb1
    clear hu hk1 hb1
    by_cases hlt : j < n
    · obtain ⟨ad, cs, hk, rfl, hcl, hca, hE⟩ := RdS.at_ (reach_below Hv.out HB1.out) hlt
      unfold FReach c3 at hE
      subst hE
      have c0 := hca.c0
      have c1 := hca.ci 0 rfl
      have c2 := hca.ci 1 rfl
      clear hca hcl
      have K1 := Lib.hid (K1.out.alloc (.cells #[.int .i64 ys[j].xCtx, .int .i64 ys[j].xLow, .int .i64 ys[j].xHigh] 128))
      have HB1 := Lib.hid (HB1.out.alloc HB1.out.size (.cells #[.int .i64 ys[j].xCtx, .int .i64 ys[j].xLow, .int .i64 ys[j].xHigh] 128))
      have k0 := K1.out.at (i := 0) rfl
      have k1 := K1.out.at (i := 1) rfl
      have k2 := K1.out.at (i := 2) rfl
      have Hj := Lib.hid (Hbe.out ys[j])
      by_cases h1 : k.xCtx ≤ ys[j].xCtx
      · go_wp2
        go_ret
        exact ⟨ret_bool (by have hb := allI_bad (p := fun _ o => behind o k) hk (Hj.out.trans (by rw [decide_eq_false (by omega)]; rfl)); rw [hb]), HB1.out⟩
      by_cases h2 : k.xLow ≤ ys[j].xHigh
      · by_cases h3 : ys[j].xLow ≤ k.xHigh
        · go_wp2
          go_ret
          exact ⟨ret_bool (by have hb := allI_bad (p := fun _ o => behind o k) hk (Hj.out.trans (by simp [h2, h3])); rw [hb]), HB1.out⟩
        · go_wp2
          exact ⟨⟨j + 1, by omega, by go_num, K1.out, HB1.out, Hu.out.succ hk (Hj.out.trans (by simp [h2, h3]; omega))⟩, by simp [intOf]; omega⟩
      · go_wp2
        exact ⟨⟨j + 1, by omega, by go_num, K1.out, HB1.out, Hu.out.succ hk (Hj.out.trans (by simp [h2]; omega))⟩, by simp [intOf]; omega⟩
    · go_wp2
      go_ret
      exact ⟨ret_bool (by have hb := Hu.out.done (by rw [Hl.out]; omega); rw [hb]), HB1.out⟩
theorem info_reach : (Try.prog.info? 128).map (fun i => (i.zero, i.size, i.bytes)) = some (some (.agg #[.int .i64 0, .int .i64 0, .int .i64 0]), 3, 24) := by kernel_rfl
set_option maxRecDepth 100000 in
set_option maxHeartbeats 2000000 in
theorem implKeyOk_r (v : Value) (xs : List DKeyRow) (w : World) (hv : RdKeyRowS w v xs) : Calls Try.prog 27 #[v] w fun e w' => e = .returned (.bool (keyOkF xs)) ∧ Below w.heap.size w w' := by
  obtain ⟨i0, hi0, hz0, hz1, hz2⟩ := info_parts info_reach
  obtain ⟨A, c, rfl⟩ := RdS.slice hv
  have hc := RdS.cap hv
  have Hv := Lib.hid hv
  clear hv
  have hkf : keyOkF xs = (decide (xs.length ≤ 4) && allI (keyGood xs) xs) := rfl
  have hkg : ∀ j k, keyGood xs j k = (rowOk k && allI (fun _ o => behind o k) (xs.take j)) := fun _ _ => rfl
  generalize hl : xs.length = n at *
  have Hl := Lib.hid hl
  have Hkf := Lib.hid hkf
  have Hkg := Lib.hid hkg
  clear hl hkf hkg
  generalize keyOkF xs = okf at *
  generalize keyGood xs = pg at *
  rcases Nat.lt_or_ge 4 n with hf | hf
  · go_enter Try.func27, Try.ntmps27
    go_wp2
    go_ret
    exact ⟨ret_bool (by rw [Hkf.out, decide_eq_false (Nat.not_le.2 hf)]; rfl), Below.refl _ _⟩
  go_enter Try.func27, Try.ntmps27
  go_wp2
  go_loopw [3, 13] (fun q i w1 => ∃ j : Nat, j ≤ n ∧ i = .int .i64 j ∧ w1.ownsRow w.heap.size 128 3 q j ((xs.take j).flatMap c3) ∧ Below w.heap.size w w1 ∧ UpTo pg xs j) (fun _ i _ => n - (intOf i).toNat)
  case atStart => exact ⟨0, by omega, rfl, ⟨by simp, .inl ⟨rfl, rfl⟩⟩, Below.refl _ _, UpTo.zero⟩
  case round =>
    obtain ⟨j, hj, rfl, ho, hb1, hu⟩ := hrel
    have Ho := Lib.hid ho
    have Hu := Lib.hid hu
    have HB1 := Lib.hid hb1
    clear ho hu hb1
    by_cases hlt : j < n
    · obtain ⟨ad, cs, hk, rfl, hcl, hca, hE⟩ := RdS.at_ (Hv.out.below HB1.out) hlt
      subst hE
      have c0 := hca.c0
      have c1 := hca.ci 0 rfl
      have c2 := hca.ci 1 rfl
      have c3' := hca.ci 2 rfl
      clear hca hcl
      have Hj := Lib.hid (Hkg.out j xs[j])
      have HB1 := Lib.hid (HB1.out.alloc HB1.out.size (.cells #[.int .i64 xs[j].xCtx, .int .i64 xs[j].xLow, .int .i64 xs[j].xHigh, .int .i64 xs[j].xMode] 41))
      have Ho := Lib.hid (Ho.out.alloc (.cells #[.int .i64 xs[j].xCtx, .int .i64 xs[j].xLow, .int .i64 xs[j].xHigh, .int .i64 xs[j].xMode] 41))
      rcases hm : inB xs[j].xMode 1 3 with _ | _
      · go_wp2_with fail
        refine (keyReachOf_no xs[j] _ hm).mono ?_
        rintro e w3 ⟨rfl, b3⟩
        have HB1 := Lib.hid (HB1.out.trans (b3.mono HB1.out.size))
        have HB2 := Lib.hid (HB1.out.alloc HB1.out.size (.cells #[.int .i64 0, .int .i64 0, .int .i64 0] 128))
        clear b3 c0 c1 c2 c3'
        go_wp2
        go_ret
        exact ⟨ret_bool (by have hb := allI_bad (p := pg) hk (Hj.out.trans (by simp [rowOk, hm])); rw [Hkf.out, hb]; simp), HB2.out⟩
      go_wp2_with fail
      refine (keyReachOf_yes xs[j] _ hm).mono ?_
      rintro e w3 ⟨rfl, b3⟩
      have HB1 := Lib.hid (HB1.out.trans (b3.mono HB1.out.size))
      have Ho := Lib.hid (ownsRow_block Ho.out (fun b hb => b3.block b (ownsRow_inside Ho.out b hb)))
      have HB2 := Lib.hid (HB1.out.alloc HB1.out.size (.cells #[.int .i64 xs[j].xCtx, .int .i64 xs[j].xLow, .int .i64 xs[j].xHigh] 128))
      have K2 := Lib.hid (Blk.new (w := w3) (b := w3.heap.size) #[.int .i64 xs[j].xCtx, .int .i64 xs[j].xLow, .int .i64 xs[j].xHigh] 128 rfl)
      have Ho := Lib.hid (Ho.out.alloc (.cells #[.int .i64 xs[j].xCtx, .int .i64 xs[j].xLow, .int .i64 xs[j].xHigh] 128))
      clear b3 c0 c1 c2 c3'
      go_wp2_with fail
      refine (keyFits_any _ _ _ _).mono ?_
      rintro e w4 ⟨rfl, b4⟩
      have HB2 := Lib.hid (HB2.out.trans (b4.mono HB2.out.size))
      have K2 := Lib.hid (K2.out.keep b4)
      have Ho := Lib.hid (ownsRow_block Ho.out (fun b hb => b4.block b (ownsRow_inside Ho.out b hb)))
      clear b4
      have k0 := K2.out.at (i := 0) rfl
      have k1 := K2.out.at (i := 1) rfl
      have k2 := K2.out.at (i := 2) rfl
      rcases hr : (inB xs[j].xCtx 1 9 && (decide (0 ≤ xs[j].xLow) && (decide (xs[j].xLow ≤ xs[j].xHigh) && decide (xs[j].xHigh ≤ 999)))) with _ | _
      · go_wp2
        go_ret
        have hro : rowOk xs[j] = false := by
          unfold rowOk
          rw [show (inB xs[j].xCtx 1 9 && (decide (0 ≤ xs[j].xLow) && (decide (xs[j].xLow ≤ xs[j].xHigh) && (decide (xs[j].xHigh ≤ 999) && inB xs[j].xMode 1 3)))) = ((inB xs[j].xCtx 1 9 && (decide (0 ≤ xs[j].xLow) && (decide (xs[j].xLow ≤ xs[j].xHigh) && decide (xs[j].xHigh ≤ 999)))) && inB xs[j].xMode 1 3) by simp only [Bool.and_assoc], hr]; rfl
        exact ⟨ret_bool (by have hb := allI_bad (p := pg) hk (Hj.out.trans (by rw [hro]; rfl)); rw [Hkf.out, hb]; simp), HB2.out⟩
      have Hro := Lib.hid (show rowOk xs[j] = true by
          unfold rowOk
          rw [show (inB xs[j].xCtx 1 9 && (decide (0 ≤ xs[j].xLow) && (decide (xs[j].xLow ≤ xs[j].xHigh) && (decide (xs[j].xHigh ≤ 999) && inB xs[j].xMode 1 3)))) = ((inB xs[j].xCtx 1 9 && (decide (0 ≤ xs[j].xLow) && (decide (xs[j].xLow ≤ xs[j].xHigh) && decide (xs[j].xHigh ≤ 999)))) && inB xs[j].xMode 1 3) by simp only [Bool.and_assoc], hr, hm]; rfl)
      clear hr
      have Htl := Lib.hid (show (xs.take j).length = j by rw [List.length_take]; omega)
      go_wp2_with fail
      refine (keyFollows_r xs[j] _ (xs.take j) _ (row_reach (by rw [Htl.out]; exact Ho.out))).mono ?_
      rintro e w5 ⟨rfl, b5⟩
      have HB2 := Lib.hid (HB2.out.trans (b5.mono HB2.out.size))
      have K2 := Lib.hid (K2.out.keep b5)
      have Ho := Lib.hid (ownsRow_block Ho.out (fun b hb => b5.block b (ownsRow_inside Ho.out b hb)))
      clear b5 k0 k1 k2
      have k0 := K2.out.at (i := 0) rfl
      have k1 := K2.out.at (i := 1) rfl
      have k2 := K2.out.at (i := 2) rfl
      rcases hb2 : allI (fun _ o => behind o xs[j]) (xs.take j) with _ | _
      · go_wp2
        go_ret
        exact ⟨ret_bool (by have hb := allI_bad (p := pg) hk (Hj.out.trans (by rw [hb2]; simp)); rw [Hkf.out, hb]; simp), HB2.out⟩
      have Hg := Lib.hid (Hj.out.trans (by rw [Hro.out, hb2]; rfl : _ = true))
      clear hb2
      have Hs := Lib.hid (show (xs.take (j + 1)).flatMap c3 = (xs.take j).flatMap c3 ++ [.int .i64 xs[j].xCtx, .int .i64 xs[j].xLow, .int .i64 xs[j].xHigh] by rw [List.take_succ_eq_append_getElem hk, List.flatMap_append]; simp [c3])
      go_wp2_with (at_builtin; refine wpList_append_own _ rfl _ _ 126 rfl w.heap.size 128 i0 _ 3 24 Try.underlying126 hi0 hz0 hz1 hz2 rfl (by decide) _ j _ rfl (Ho.out.alloc _) ⟨w5.heap.size, 0, none⟩ 1 1 [.int .i64 xs[j].xCtx, .int .i64 xs[j].xLow, .int .i64 xs[j].xHigh] rfl rfl (by intro i u hu; match i, hu with | 0, hu => (simp at hu; subst hu; go_simp) | 1, hu => (simp at hu; subst hu; go_simp) | 2, hu => (simp at hu; subst hu; go_simp)) (by simp [Value.oneCell']) (by unfold maxLen; omega) (by omega) (by have := HB2.out.size; simp; omega) ?_; intro v' w6 h1 h2 _)
      have hbl := HB2.out.alloc HB2.out.size (.cells #[.int .i64 xs[j].xCtx, .int .i64 xs[j].xLow, .int .i64 xs[j].xHigh] 128)
      have HB3 := Lib.hid (hbl.grown h2 (hbl.size) (fun b hb => (Ho.out.lt b hb).1))
      rw [← Hs.out] at h1
      have H1 := Lib.hid h1
      clear h1 h2 hbl
      exact ⟨⟨j + 1, by omega, by go_num, H1.out, HB3.out, Hu.out.succ hk Hg.out⟩, by simp [intOf]; omega⟩
    · go_wp2
      go_ret
      exact ⟨ret_bool (by have hb := Hu.out.done (by rw [Hl.out]; omega); rw [Hkf.out, hb, decide_eq_true hf]; rfl), HB1.out⟩
end Go.Proofs.Ytbceikhmoblacaa
