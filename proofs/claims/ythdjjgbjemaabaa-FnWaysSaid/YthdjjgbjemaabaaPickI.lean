/-
  Which way is taken: the program's iterator over the ways that are on, and the loop over it (a range over a function, by the library's laws for those).
-/
import Derived.RangeFuncNested
import Derived.RangeFuncBound
import Derived.RangeFuncCalls
import Derived.RangeFuncLeaves
import Derived.RangeFuncFrom
import Derived.RangeFuncBox
import Derived.Shelf.Abstract
import Derived.Shelf.RegionOpen
import Derived.WalkKit
import Derived.OwnWalkIn
import Derived.TacticsInMore
import Derived.LoopNIn
import Derived.LoopIn
import Derived.Deep.WholeRow
import Derived.Test.YthdjjgbjemaabaaTyPthWay
namespace Go.Proofs.Ythdjjgbjemaabaa
open Go.ChangeShapes Go.WideShapes Go.ChangeAt Go.RowKit Go.Shelf
set_option linter.unusedVariables false
set_option linter.unusedSimpArgs false
attribute [local go_sem] Oper.semAt_some

/-- The places of those that are on. -/
def onIdx (ws : List DPthWay) (k : Nat) : List Nat := (List.range k).filter (fun j => match ws[j]? with | some x => x.xOn | none => false)
theorem onIdx_yes {ws : List DPthWay} {k : Nat} (h : k < ws.length) (ho : ws[k].xOn = true) : onIdx ws (k + 1) = onIdx ws k ++ [k] := by
  unfold onIdx
  rw [List.range_succ, List.filter_append]
  simp [List.getElem?_eq_getElem h, ho]
theorem onIdx_no {ws : List DPthWay} {k : Nat} (h : k < ws.length) (ho : ws[k].xOn = false) : onIdx ws (k + 1) = onIdx ws k := by
  unfold onIdx
  rw [List.range_succ, List.filter_append]
  simp [List.getElem?_eq_getElem h, ho]
theorem onIdx_len (ws : List DPthWay) (k : Nat) : (onIdx ws k).length ≤ k := by
  unfold onIdx
  have := List.length_filter_le (fun j => match ws[j]? with | some x => x.xOn | none => false) (List.range k)
  simpa using this
theorem wpListIn_store_new {F : Fence} {nF : Nat} {P : Program} {ops : Array Oper} {rest : List Oper} {o : Oper} {a : Act} {Q : Exit → Act → World → Prop} (w : World) (hgd : o.guard = none) (t : TypeId) (p x : Operand)
    (ho : o.op = .store t p x) {c c' : Array Value} (hp : a.eval p = .pointer (some ⟨w.heap.size, 0, none⟩)) (hx : a.eval x = .agg c') (hi : (P.info? t).map (·.size) = some c'.size) (hs : c.size = c'.size) (h1 : c'.all (·.oneCell') = true)
    (h : wpListIn F nF P ops Q rest (a.put o.dst undef) (w.alloc (.cells c' t))) :
    wpListIn F nF P ops Q (o :: rest) a (w.alloc (.cells c t)) := by
  refine wpListIn_plain hgd fun K hK => ?_
  have hr := run_storeAt_new (P := P) w t c c' hi hs h1
  unfold Oper.wpIn
  refine ⟨by simp [Oper.about, ho], ?_⟩
  rw [Oper.semAt_plain F _ _ (by rw [ho]; intro c hc'; cases hc')]
  simp [execOp, ho, hp, hx, hr, Result.andThen]
  exact hK _ _ h
theorem one_new (W : World) (v : Value) (t : TypeId) : (W.alloc (.cells #[v] t)).cell? ⟨W.heap.size, 0, none⟩ = some v ∧ (W.alloc (.cells #[v] t)).frozen? ⟨W.heap.size, 0, none⟩ = false :=
  ⟨(Blk.new (b := W.heap.size) #[v] t rfl).at rfl, (Blk.new (b := W.heap.size) #[v] t rfl).frozen 0⟩
theorem cell_al {W : World} {a : Addr} {v : Value} (o : Obj) (h : W.cell? a = some v) : (W.alloc o).cell? a = some v :=
  (((Below.refl W.heap.size W).alloc (Nat.le_refl _) o).cell (World.block_lt_of_cell? W _ h)).trans h
theorem frozen_al {W : World} {a : Addr} {v : Value} (o : Obj) (h : W.cell? a = some v) (hf : W.frozen? a = false) : (W.alloc o).frozen? a = false :=
  (((Below.refl W.heap.size W).alloc (Nat.le_refl _) o).frozen (World.block_lt_of_cell? W _ h)).trans hf
theorem wayInfo : (Try.prog.info? 24).map (·.size) = some 6 := by kernel_rfl
theorem grown_of_below {w w' : World} (h : Below w.heap.size w w') : w.grownBy w' none := ⟨h.os, h.tape, h.output, h.size, fun k hk _ => h.block k hk⟩

set_option maxRecDepth 100000 in
set_option maxHeartbeats 2000000 in
theorem pthOn1_in (F : Fence) (n : Nat) (hF : F.fn 285) (hro : F.round = none) (hn : 1 ≤ n) (l Bs : Nat) (w : World) (A : Option Addr) (c : Nat) (ws : List DPthWay) (hv : RdPthWayS w (.slice A ws.length c) ws) (J Jx : List Nat → World → Prop) (W : World) (hJ : AbidesFrom W.heap.size J)
    (hY : ∀ pre x W1, J pre W1 → pre.length < ws.length → YieldAt F (n - 1) Try.prog l #[.int .i64 ((x : Nat) : Int)] W1 fun e W' =>
      (e = .returned (.bool true) ∧ J (pre ++ [x]) W' ∧ Below w.heap.size W1 W') ∨ (e = .returned (.bool false) ∧ Jx (pre ++ [x]) W'))
    (hW : Below w.heap.size w W) (hBs : W.cell? ⟨Bs, 0, none⟩ = some (.slice A ws.length c)) (h0 : J [] W) :
    CallsIn F n Try.prog 285 #[.func (.yield l) #[] #[], .pointer (some ⟨Bs, 0, none⟩)] W fun e W' => (∃ v, e = .returned v) ∧
      ((∃ ys, ys = onIdx ws ws.length ∧ J ys W') ∨ (∃ pre, True ∧ Jx pre W')) := by
  have HI := Lib.hid wayInfo
  have hcap := RdS.cap hv
  have HV := Lib.hid hv
  have HJ := Lib.hid hJ
  have HY := Lib.hid hY
  clear hv hJ hY
  generalize hl : ws.length = len at *
  have Hl := Lib.hid hl
  clear hl
  refine callsIn_of_wp Try.func285 rfl hF ?_ hro
  simp only [Try.ntmps285, List.size_toArray, List.length_cons, List.length_nil, Nat.reduceAdd, Nat.reduceSub, Array.replicate_succ, Array.replicate_zero, List.push_toArray, List.append_toArray, List.nil_append, List.cons_append]
  gi_wp2
  gi_loopw [7] (fun i wr => ∃ k : Nat, k ≤ len ∧ i = .int .i64 k ∧ J (onIdx ws k) wr ∧ Below w.heap.size w wr) (fun i _ => len - (intOf i).toNat)
  case atStart => exact ⟨0, Nat.zero_le _, rfl, h0, hW⟩
  case round =>
    obtain ⟨k, hk, rfl, hJs, hnx⟩ := hrel
    by_cases hlt : k < len
    · obtain ⟨ad, cs, hkx, rfl, hcl, hca, hE⟩ := RdS.at_ (RdPthWayS.below HV.out hnx) hlt
      have hE : cs = _ := hE
      subst hE
      have c0 := hca.c0
      have c1 := hca.ci 0 rfl
      have c2 := hca.ci 1 rfl
      have c3 := hca.ci 2 rfl
      have c4 := hca.ci 3 rfl
      have c5 := hca.ci 4 rfl
      clear hca hcl
      have bn := (Below.refl wr.heap.size wr).alloc (Nat.le_refl _) (.cells #[.int .i64 ws[k].xAddr, .bool ws[k].xOn, .int .i64 ws[k].xErrors, .int .i64 ws[k].xSrtt, .int .i64 ws[k].xVar, .int .i64 ws[k].xRto] 24)
      have hJ1 := HJ.out _ _ _ none hJs (grown_of_below bn) (by simp)
      have hnx1 := hnx.trans (bn.mono hnx.size)
      have Hlen := Lib.hid (onIdx_len ws k)
      rcases ho : ws[k].xOn with _ | _
      · have Hon := Lib.hid (onIdx_no hkx ho)
        rw [ho] at c1 hJ1 hnx1
        clear bn
        gi_wp2_with (refine wpListIn_store_new _ rfl 24 (.tmp 4) (.tmp 11) rfl rfl rfl HI.out rfl (by rfl) ?_)
        refine ⟨fun _ h => (by cases h), ?_⟩
        gi_wp2
        go_roundw
        case rel => exact ⟨k + 1, by omega, by simp, by rw [Hon.out]; exact hJ1, hnx1⟩
        case measure => simp [intOf]; omega
      · have Hon := Lib.hid (onIdx_yes hkx ho)
        rw [ho] at c1 hJ1 hnx1
        obtain ⟨fn, tmps, assign, body, hy, hR⟩ := HY.out _ k _ hJ1 (by have := Hlen.out; omega)
        clear bn
        gi_wp2_with (refine wpListIn_store_new _ rfl 24 (.tmp 4) (.tmp 11) rfl rfl rfl HI.out rfl (by rfl) ?_)
        refine hR.mono ?_
        rintro e W3 (⟨rfl, hJ3, hk3⟩ | ⟨rfl, hJx3⟩)
        · gi_wp2
          go_roundw
          case rel => exact ⟨k + 1, by omega, by simp, by rw [Hon.out]; exact hJ3, hnx1.trans hk3⟩
          case measure => simp [intOf]; omega
        · gi_wp2
          refine bodyPost_ret (results_none rfl _ _ _) rfl ?_
          exact ⟨⟨_, rfl⟩, .inr ⟨_, trivial, hJx3⟩⟩
    · obtain rfl : k = len := by omega
      gi_wp2
      go_end0
      exact ⟨⟨_, rfl⟩, .inl ⟨_, rfl, hJs⟩⟩
theorem pthOn_stops (F : Fence) (n : Nat) (hF : F.fn 285) (hro : F.round = none) (hn : 1 ≤ n) (Bs : Nat) (w0 : World) (A : Option Addr) (c : Nat) (ws : List DPthWay) (hv : RdPthWayS w0 (.slice A ws.length c) ws) (w : World) (hB : Below w0.heap.size w0 w) (hBs : Bs < w.heap.size)
    (hc : w.cell? ⟨Bs, 0, none⟩ = some (.slice A ws.length c)) :
    SeqStopsK F n Try.prog 285 #[.pointer (some ⟨Bs, 0, none⟩)] (fun x : Nat => #[Value.int .i64 (x : Int)]) (Below w0.heap.size) (fun ys => ys = onIdx ws ws.length) (fun pre => True) ws.length w := fun l J Jx W hW hJ _ hY h0 =>
  pthOn1_in F n hF hro hn l Bs w0 A c ws hv J Jx W hJ hY (hB.trans (hW.mono hB.size)) ((hW.cell (p := ⟨Bs, 0, none⟩) hBs).trans hc) h0
set_option maxHeartbeats 1000000 in
theorem pthOnSeq_in (F : Fence) (n : Nat) (hF : F.fn 219) (hro : F.round = none) (A : Option Addr) (len cap : Nat) (w : World) :
    CallsIn F n Try.prog 219 #[.slice A len cap] w fun e w' => e = .returned (.func (.func 285) #[] #[.pointer (some ⟨w.heap.size, 0, none⟩)]) ∧ w' = w.alloc (.cells #[.slice A len cap] 30) := by
  refine callsIn_of_wp Try.func219 rfl hF ?_ hro
  simp only [Try.ntmps219, List.size_toArray, List.length_cons, List.length_nil, Nat.reduceAdd, Nat.reduceSub, Array.replicate_succ, Array.replicate_zero, List.push_toArray, List.append_toArray, List.nil_append, List.cons_append]
  gi_wp2
  go_ret
  exact ⟨rfl, rfl⟩
def takeStep (p t : Int) (x : Nat) : Int := if t < 0 ∨ (x : Int) = p then (x : Int) else t
def takenL (p : Int) (pre : List Nat) : Int := pre.foldl (takeStep p) (-1)
theorem takenL_snoc (p : Int) (pre : List Nat) (x : Nat) : takenL p (pre ++ [x]) = takeStep p (takenL p pre) x := by simp [takenL, List.foldl_append]
def takenR (ws : List DPthWay) (p : Int) : Int := if takenL p (onIdx ws ws.length) < 0 then p else takenL p (onIdx ws ws.length)
set_option maxRecDepth 100000 in
set_option maxHeartbeats 2000000 in
theorem pthTaken_in (F : Fence) (n : Nat) (h1f : F.fn 109) (h2f : F.fn 219) (h3f : F.fn 285) (hro : F.round = none) (hn : 3 ≤ n) (A : Option Addr) (c : Nat) (ws : List DPthWay) (p : Int) (w : World) (hv : RdPthWayS w (.slice A ws.length c) ws) :
    CallsIn F n Try.prog 109 #[.slice A ws.length c, .int .i64 p] w fun e W' => e = .returned (.int .i64 (takenR ws p)) ∧ Below w.heap.size w W' := by
  have h1 : 1 ≤ n := by omega
  have HV := Lib.hid hv
  have HR := Lib.hid (show takenR ws p = if takenL p (onIdx ws ws.length) < 0 then p else takenL p (onIdx ws ws.length) from rfl)
  clear hv
  generalize hl : ws.length = len at *
  have Hl := Lib.hid hl
  clear hl
  refine callsIn_of_wp_marks Try.func109 rfl h1f ?_ hro
  simp only [Try.ntmps109, List.size_toArray, List.length_cons, List.length_nil, Nat.reduceAdd, Nat.reduceSub, Array.replicate_succ, Array.replicate_zero, List.push_toArray, List.append_toArray, List.nil_append, List.cons_append]
  gi_wp2_with (gi_at_call 219; refine (pthOnSeq_in F (n - 1) h2f hro _ _ _ _).mono ?_; rintro e w' ⟨rfl, rfl⟩)
  have q0 := one_new w (.int .i64 p) 3
  have q1 := one_new (w.alloc (.cells #[.int .i64 p] 3)) (.int .i64 (-1)) 3
  have q2 := one_new ((w.alloc (.cells #[.int .i64 p] 3)).alloc (.cells #[.int .i64 (-1)] 3)) (.slice A len c) 30
  simp only [World.size_alloc] at q1 q2
  have hB0 : Below w.heap.size w (((w.alloc (.cells #[.int .i64 p] 3)).alloc (.cells #[.int .i64 (-1)] 3)).alloc (.cells #[.slice A len c] 30)) := (((Below.refl _ w).alloc (Nat.le_refl _) _).alloc (by simp) _).alloc (by simp; omega) _
  refine wpIn_rangeFunc_ownF hro h1 (gf := 285) (lb := #[.pointer (some ⟨w.heap.size + 1 + 1, 0, none⟩)]) rfl h3f (enters_of Try.func285 (by kernel_rfl) rfl)
    (pthOn_stops F (n - 1) h3f hro (by omega) (w.heap.size + 1 + 1) w A c ws (by rw [Hl.out]; exact HV.out) _ hB0 (by simp) (by rw [Hl.out]; exact q2.1)) belowK_t (belowK_b (by simp; omega)) (Below.refl _ _) (fun _ => rfl)
    (fun pre W => ((W.cell? ⟨w.heap.size, 0, none⟩ = some (.int .i64 p)) ∧ W.cell? ⟨w.heap.size + 1, 0, none⟩ = some (.int .i64 (takenL p pre)) ∧ W.frozen? ⟨w.heap.size + 1, 0, none⟩ = false) ∧ Below w.heap.size w W)
    (fun _ _ _ => False)
    (OwnFrom.and (Own.from (fun s A B row hs hg hr => ⟨cell_kept hs.1 hg hr, cell_kept hs.2.1 hg hr, (frozen_kept hs.2.1 hg hr).trans hs.2.2⟩) _) (ownFrom_below (Nat.le_refl _) (by simp; omega)))
    (fun _ _ _ _ _ hs _ _ => hs)
    ⟨⟨cell_al _ (cell_al _ q0.1), cell_al _ q1.1, frozen_al _ q1.1 q1.2⟩, hB0⟩
    (fun x => { tmps := #[.slice A len c, .int .i64 p, undef, .pointer (some ⟨w.heap.size, 0, none⟩), .int .i64 0, .pointer (some ⟨w.heap.size + 1, 0, none⟩), .int .i64 x, .slice A len c, .func (.func 285) #[] #[.pointer (some ⟨w.heap.size + 1 + 1, 0, none⟩)], .int .i64 x, undef, undef, undef, undef, undef, undef, undef, undef, undef, undef, undef, undef], defers := [] }) ?assign ?body ?done ?stop
  case assign =>
    intro l x W K hK
    gi_wp2
    exact hK
  case body =>
    rintro l pre x W ⟨⟨hp, hc, hf⟩, hB⟩ _
    have HS := Lib.hid (takenL_snoc p pre x)
    have HB := Lib.hid hB
    clear hB
    generalize takenL p pre = t at *
    by_cases ht : t < 0
    · have HT := Lib.hid (show takeStep p t x = (x : Int) from if_pos (.inl ht))
      gi_wp2
      exact ⟨KeepsOthers.setCell _ _ _, (Below.refl w.heap.size W).setCell (p := ⟨w.heap.size + 1, 0, none⟩) (by simp) _, ⟨⟨(World.cell?_setCell_other _ _ _ _ (by simp)).trans hp, by rw [HS.out, HT.out]; exact World.cell?_setCell_same' _ _ _ (by rw [hc]; rfl), by rw [World.frozen?_setCell]; exact hf⟩, HB.out.setCell (p := ⟨w.heap.size + 1, 0, none⟩) (by simp) _⟩⟩
    · by_cases hx : (x : Int) = p
      · have HT := Lib.hid (show takeStep p t x = (x : Int) from if_pos (.inr hx))
        have hb : ((x : Int) == p) = true := by simp [hx]
        have HX := Lib.hid hx
        clear hx
        gi_wp2
        exact ⟨KeepsOthers.setCell _ _ _, (Below.refl w.heap.size W).setCell (p := ⟨w.heap.size + 1, 0, none⟩) (by simp) _, ⟨⟨(World.cell?_setCell_other _ _ _ _ (by simp)).trans hp, by rw [HS.out, HT.out]; exact World.cell?_setCell_same' _ _ _ (by rw [hc]; rfl), by rw [World.frozen?_setCell]; exact hf⟩, HB.out.setCell (p := ⟨w.heap.size + 1, 0, none⟩) (by simp) _⟩⟩
      · have HT := Lib.hid (show takeStep p t x = t from if_neg (by omega))
        have hb : ((x : Int) == p) = false := by simp [hx]
        clear hx
        gi_wp2
        exact ⟨KeepsOthers.refl _, Below.refl _ _, ⟨⟨hp, by rw [HS.out, HT.out]; exact hc, hf⟩, HB.out⟩⟩
  case done =>
    rintro D ys W hD rfl ⟨⟨hp, hc, hf⟩, hB⟩ hK
    rw [Hl.out] at hc
    have HB := Lib.hid hB
    clear hB
    generalize takenL p (onIdx ws len) = t at *
    by_cases ht : t < 0
    · have HT := Lib.hid (show takenR ws p = p by rw [HR.out, if_pos ht])
      gi_wp2
      refine ⟨by simp, .inl ⟨_, _, rfl, run_takeDeferred hK, ?_⟩⟩
      exact ⟨_, results_tmp rfl _ _ _, (by rw [HT.out]; rfl), HB.out.trans (belowK_b (w := w) (Nat.le_refl _) W D _ _ (by simp at hD; omega) hK rfl rfl)⟩
    · have HT := Lib.hid (show takenR ws p = t by rw [HR.out, if_neg ht])
      gi_wp2
      refine ⟨by simp, .inl ⟨_, _, rfl, run_takeDeferred hK, ?_⟩⟩
      exact ⟨_, results_tmp rfl _ _ _, (by rw [HT.out]; rfl), HB.out.trans (belowK_b (w := w) (Nat.le_refl _) W D _ _ (by simp at hD; omega) hK rfl rfl)⟩
  case stop =>
    rintro D c pre W _ _ h _
    exact h.elim
theorem pthTaken_n (A : Option Addr) (c : Nat) (ws : List DPthWay) (p : Int) (w : World) (hv : RdPthWayS w (.slice A ws.length c) ws) :
    Calls Try.prog 109 #[.slice A ws.length c, .int .i64 p] w fun e W' => e = .returned (.int .i64 (takenR ws p)) ∧ Below w.heap.size w W' :=
  callsIn_wide.1 (pthTaken_in Fence.wide 3 trivial trivial trivial rfl (Nat.le_refl _) A c ws p w hv)
end Go.Proofs.Ythdjjgbjemaabaa
