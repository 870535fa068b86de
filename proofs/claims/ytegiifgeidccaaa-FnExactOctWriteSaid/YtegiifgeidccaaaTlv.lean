/-
  The contracts of the laws' own helpers on lists of kinds and bodies.
-/
import Derived.Test.YtegiifgeidccaaaHlpB
import Derived.Test.YtegiifgeidccaaaOwn
import Derived.StillTailTactics
namespace Go.Proofs.Ytegiifgeidccaaa
open Go.ChangeShapes Go.WideShapes Go.ChangeAt Go.RowKit
set_option linter.unusedVariables false

/-- What is left behind so many. -/
def szR (left : Int) (n : Nat) : Int := if (n : Int) ≤ left then left - n else -1
theorem szR_yes {left : Int} {n : Nat} (h : (n : Int) ≤ left) : szR left n = left - n := if_pos h
theorem szR_no {left : Int} {n : Nat} (h : ¬ (n : Int) ≤ left) : szR left n = -1 := if_neg h
set_option maxHeartbeats 400000 in
theorem szByteS_any (v : Value) (xs : List UInt8) (left : Int) (w : World) (hv : RdB w v xs) (hl : 0 ≤ left ∧ left ≤ 1048576) :
    Calls Try.prog 29 #[v, .int .i64 left] w fun e w' => e = .returned (.int .i64 (szR left xs.length)) ∧ w = w' := by
  obtain ⟨A, c, rfl⟩ := hv.slice
  have hc := hv.cap
  clear hv
  by_cases h : (xs.length : Int) ≤ left
  · rw [szR_yes h]
    generalize xs.length = n at *
    go_enter Try.func29, Try.ntmps29
    go_wp2
    go_ret
    exact ⟨rfl, rfl⟩
  · rw [szR_no h]
    generalize xs.length = n at *
    go_enter Try.func29, Try.ntmps29
    go_wp2
    go_ret
    exact ⟨rfl, rfl⟩

theorem row_mono {w : World} {base base' size n : Nat} {e : TypeId} {v : Value} {xs : List Value} (h : w.ownsRow base e size v n xs) (hb : base' ≤ base) : w.ownsRow base' e size v n xs :=
  ⟨h.1, h.2.imp id fun ⟨g, cap, cur, hv, hg, rest⟩ => ⟨g, cap, cur, hv, by omega, rest⟩⟩
theorem below_of_drew {B : Nat} {w w' : World} (h : Below B w.drew w') : Below B w w' := ⟨h.os, h.tape, h.output, h.size, h.block⟩
theorem below3 (w : World) (a b c : Obj) : Below w.heap.size w (((w.alloc a).alloc b).alloc c) := (((Below.refl _ _).alloc (Nat.le_refl _) _).alloc (by simp) _).alloc (by simp; omega) _
theorem bcell {W w1 : World} (hb : Below W.heap.size W w1) : (∀ b o, b < W.heap.size → w1.cell? ⟨b, o, none⟩ = W.cell? ⟨b, o, none⟩) ∧ (∀ b o, b < W.heap.size → w1.frozen? ⟨b, o, none⟩ = W.frozen? ⟨b, o, none⟩) :=
  ⟨fun b o h => hb.cell (p := ⟨b, o, none⟩) h, fun b o h => hb.frozen (p := ⟨b, o, none⟩) h⟩
/-- A kind and a body. -/
structure Tlv where
  kind : Int
  body : List UInt8
def FTlv (w : World) (cs : List Value) (x : Tlv) : Prop := ∃ v, cs = [.int .i64 x.kind, v] ∧ RdB w v x.body
def ETlv (w : World) (f : List Nat) (cs : List Value) (x : Tlv) : Prop := ∃ v, cs = [.int .i64 x.kind, v] ∧ w.ownsRow 0 5 1 v x.body.length (x.body.map byt) ∧ f = v.ownBlock.toList
theorem ETlv.framed : Framed ETlv := by
  rintro w w' f cs x ⟨v, rfl, hr, rfl⟩ hb
  exact ⟨v, rfl, ownsRow_block hr hb, rfl⟩
theorem ETlv.inside : Inside ETlv := by
  rintro w f cs x ⟨v, rfl, hr, rfl⟩ b hb
  exact ownsRow_inside hr b hb
theorem row_owb {w : World} {lo : Nat} {v : Value} {xs : List UInt8} (h : w.ownsRow lo 5 1 v xs.length (xs.map byt)) : OwB w lo w.heap.size v xs := OwB.of_row h rfl rfl
theorem ETlv.rd {w : World} {f : List Nat} {cs : List Value} {x : Tlv} (h : ETlv w f cs x) : FTlv w cs x := by
  obtain ⟨v, rfl, hr, _⟩ := h
  exact ⟨v, rfl, (row_owb hr).rd⟩
theorem FTlv.below {w w' : World} {cs : List Value} {x : Tlv} (h : FTlv w cs x) (hb : Below w.heap.size w w') : FTlv w' cs x := by
  obtain ⟨v, rfl, hr⟩ := h
  exact ⟨v, rfl, hr.below hb⟩

set_option maxHeartbeats 400000 in
theorem szOctTlv_any (v : Value) (k : Int) (xs : List UInt8) (left : Int) (w : World) (hv : RdB w v xs) (hl : 0 ≤ left ∧ left ≤ 1048576) :
    Calls Try.prog 19 #[.agg #[.int .i64 k, v], .int .i64 left] w fun e w' => e = .returned (.int .i64 (szR left xs.length)) ∧ Below w.heap.size w w' := by
  have hr : szR left xs.length < 0 ∧ szR left xs.length = -1 ∨ 0 ≤ szR left xs.length := by unfold szR; split <;> omega
  generalize hre : szR left xs.length = r at hr ⊢
  have Hre := Lib.hid hre
  have Hv := Lib.hid hv
  clear hv hre
  go_enter Try.func19, Try.ntmps19
  go_wp2_with fail
  refine (szByteS_any _ xs _ _ (Hv.out.below ((Below.refl _ _).alloc (Nat.le_refl _) _)) hl).mono ?_
  rintro e w' ⟨rfl, rfl⟩
  rw [Hre.out]
  rcases hr with ⟨h1, rfl⟩ | h1
  all_goals
    go_wp2
    go_ret
    exact ⟨rfl, (Below.refl _ _).alloc (Nat.le_refl _) _⟩

/-- How much there is to be marked. -/
def szTlv (x : Tlv) : Nat := 1 + x.body.length
theorem szTlv_len (xs : List Tlv) : xs.length ≤ szL szTlv xs := by
  induction xs with
  | nil => simp [szL]
  | cons x xs ih => simp only [szL, szTlv, List.length_cons]; omega
theorem szTlv_mem {xs : List Tlv} {x : Tlv} (h : x ∈ xs) : x.body.length ≤ szL szTlv xs := by
  induction xs with
  | nil => cases h
  | cons y ys ih =>
    rcases List.mem_cons.1 h with rfl | h
    · simp only [szL, szTlv]; omega
    · have := ih h; simp only [szL]; omega
/-- What was counted is not too much. -/
def SzTlv (xs : List Tlv) (e : Ending) : Prop := ∃ r : Int, e = .returned (.int .i64 r) ∧ (r = -1 ∨ (0 ≤ r ∧ szL szTlv xs ≤ 1048576))
set_option maxHeartbeats 400000 in
theorem szOctTlvS_any (v : Value) (xs : List Tlv) (w : World) (hv : RdS 2 FTlv w v xs) :
    Calls Try.prog 5 #[v, .int .i64 1048576] w fun e w' => SzTlv xs e ∧ Below w.heap.size w w' := by
  obtain ⟨A, c, rfl⟩ := hv.slice
  have hc := hv.cap
  generalize hl : xs.length = n at *
  have Hl := Lib.hid hl
  have Hv := Lib.hid hv
  clear hl hv
  by_cases hn : (n : Int) ≤ 1048576
  · go_enter Try.func5, Try.ntmps5
    go_wp2
    go_loopw [1, 5] (fun q i w1 => ∃ (j : Nat) (l : Int), j ≤ n ∧ i = .int .i64 j ∧ q = .int .i64 l ∧ 0 ≤ l ∧ l ≤ 1048576 ∧ l + szL szTlv (xs.take j) + n ≤ 1048576 + j ∧ Below w.heap.size w w1) (fun _ i _ => n - (intOf i).toNat)
    case atStart => exact ⟨0, 1048576 - n, by omega, rfl, rfl, by omega, by omega, by simp [szL], Below.refl _ _⟩
    case round =>
      obtain ⟨j, l, hj, rfl, rfl, hl0, hl1, hb, hw⟩ := hrel
      have Hb := Lib.hid hb
      have Hw := Lib.hid hw
      clear hb hw
      by_cases hlt : j < n
      · obtain ⟨ad, cs, hk, rfl, hcl, hca, u, rfl, hu⟩ := (Hv.out.below (fun _ _ h => h.below Hw.out) Hw.out).at_ hlt
        have c0 := hca.c0
        have c1 := hca.ci 0 rfl
        have Hu := Lib.hid hu
        clear hu hca hcl
        have hr : szR l xs[j].body.length < 0 ∧ szR l xs[j].body.length = -1 ∨ 0 ≤ szR l xs[j].body.length ∧ szR l xs[j].body.length ≤ 1048576 ∧ szR l xs[j].body.length + xs[j].body.length ≤ l := by unfold szR; split <;> omega
        go_wp2_with fail
        refine (szOctTlv_any _ _ _ _ _ Hu.out ⟨hl0, hl1⟩).mono ?_
        rintro e w2 ⟨rfl, hb2⟩
        have Hb2 := Lib.hid (Hw.out.trans (hb2.mono Hw.out.size))
        clear hb2 c0 c1
        have Hx := Lib.hid (szL_take_succ (sz := szTlv) hk)
        generalize szR l xs[j].body.length = r at *
        rcases hr with ⟨h1, rfl⟩ | ⟨h1, h2, h3⟩
        · go_wp2
          go_ret
          exact ⟨⟨_, rfl, .inl rfl⟩, Hb2.out⟩
        · have H3 := Lib.hid h3
          clear h3
          go_wp2
          refine ⟨⟨j + 1, r, by omega, by go_num, rfl, h1, h2, ?_, Hb2.out⟩, by simp [intOf]; omega⟩
          have h4 := Hb.out
          have h5 := H3.out
          have h6 : szTlv xs[j] = 1 + xs[j].body.length := rfl
          rw [Hx.out, h6]
          omega
      · have : j = n := by omega
        subst this
        go_wp2
        go_ret
        refine ⟨⟨l, rfl, .inr ⟨hl0, ?_⟩⟩, Hw.out⟩
        have := Hb.out
        rw [List.take_of_length_le (by rw [Hl.out]; omega)] at this
        omega
  · go_enter Try.func5, Try.ntmps5
    go_wp2
    go_ret
    exact ⟨⟨_, rfl, .inl rfl⟩, Below.refl _ _⟩

set_option maxHeartbeats 400000 in
theorem toOctTlv_any (v : Value) (k : Int) (xs : List UInt8) (w : World) (hv : RdB w v xs) (hn : xs.length ≤ 4294967296) :
    Calls Try.prog 23 #[.agg #[.int .i64 k, v]] w fun e w' => ∃ v', e = .returned (.agg #[.int .i64 k, v']) ∧ w'.ownsRow w.heap.size 5 1 v' xs.length (xs.map byt) ∧ Below w.heap.size w w' := by
  have Hv := Lib.hid hv
  clear hv
  go_enter Try.func23, Try.ntmps23
  go_wp2_with fail
  refine (toByteS_any _ xs _ (Hv.out.below (below3 _ _ _ _)) hn).mono ?_
  rintro e w2 ⟨v', rfl, ho, hb⟩
  obtain ⟨A, c, rfl⟩ := ho.rd.slice
  obtain ⟨hc, hf⟩ := bcell hb
  have c0 := hc (w.heap.size + 1 + 1) 0 (by simp)
  have f1 := hf (w.heap.size + 1 + 1) 1 (by simp)
  have c1 := hc (w.heap.size + 1 + 1) 1 (by simp)
  have d0 := hc (w.heap.size + 1) 0 (by simp)
  have d1 := hc (w.heap.size + 1) 1 (by simp)
  have g0 := hf (w.heap.size + 1) 0 (by simp)
  have g1 := hf (w.heap.size + 1) 1 (by simp)
  have hz : w.heap.size + 3 ≤ w2.heap.size := by have := hb.size; simp at this; omega
  have Ho := Lib.hid ho
  have Hb := Lib.hid hb
  clear ho hb hc hf
  go_wp2
  refine bodyPost_ret (v := .agg #[.int .i64 k, .slice A xs.length c]) (by simp [results, Try.results23, go_sem, d0, d1]) rfl ⟨_, rfl, ?_, ?_⟩
  · have h := Ho.out.1
    simp only [World.size_alloc] at h
    refine row_mono (ownsRow_setCell_below (a := ⟨w.heap.size + 1, 1, none⟩) (ownsRow_setCell_below (a := ⟨w.heap.size + 1, 0, none⟩) (ownsRow_setCell_below (a := ⟨w.heap.size + 1 + 1, 1, none⟩) h ?_ _) ?_ _) ?_ _) (by omega)
    · show w.heap.size + 1 + 1 < _; omega
    · show w.heap.size + 1 < _; omega
    · show w.heap.size + 1 < _; omega
  · exact (((((below3 w _ _ _).trans (Hb.out.mono (by simp; omega))).setCell (by simp; omega) _).setCell (by simp) _).setCell (by simp) _)

/-- What a new list of kinds and bodies is. -/
def NewTlvs (w w' : World) (v : Value) (xs : List Tlv) : Prop := ∃ bs, OwL 50 2 ETlv w' bs v xs ∧ bs.Nodup ∧ (∀ b ∈ bs, w.heap.size ≤ b) ∧ Below w.heap.size w w'
theorem info_tlv : (Try.prog.info? 50).map (fun i => (i.zero, i.size, i.bytes)) = some (some (.agg #[.int .i64 0, .slice none 0 0]), 2, 32) := by kernel_rfl
set_option maxRecDepth 100000 in
set_option maxHeartbeats 400000 in
theorem toOctTlvS_any (v : Value) (xs : List Tlv) (w : World) (hv : RdS 2 FTlv w v xs) (hs : szL szTlv xs ≤ 1048576) :
    Calls Try.prog 7 #[v] w fun e w' => ∃ v', e = .returned v' ∧ NewTlvs w w' v' xs := by
  obtain ⟨i0, hi0, hz0, hz1, hz2⟩ := info_parts info_tlv
  have hn : xs.length ≤ 1048576 := Nat.le_trans (szTlv_len _) hs
  have hx : ∀ x ∈ xs, x.body.length ≤ 1048576 := fun x h => Nat.le_trans (szTlv_mem h) hs
  clear hs
  obtain ⟨A, c, rfl⟩ := hv.slice
  generalize hl : xs.length = n at *
  have Hl := Lib.hid hl
  have Hv := Lib.hid hv
  have Hx := Lib.hid hx
  clear hl hv hx
  go_enter Try.func7, Try.ntmps7
  go_wp2_with (at_make; refine wpList_make_full _ rfl _ _ 27 rfl 0 50 i0 _ 2 Try.underlying27 hi0 hz0 hz1 _ _ _ _ n rfl rfl rfl rfl (by rw [hz2]; omega) (by unfold maxLen; omega) (Nat.zero_le _) ?_; intro w1 h1 h2)
  generalize hzs : (madeCells _ (n * 2)).toList = zs at h1
  have Z := Lib.hid (show zs.length = n * 2 from h1.1)
  have F1 := Lib.hid (Fill.start (E := ETlv) (xs := xs) h1)
  have B1 := Lib.hid ((Below.refl w.heap.size w).grown h2 (Nat.le_refl _) (by simp))
  clear h1 h2 hzs
  go_loopw [4] (fun i w2 => ∃ j : Nat, j ≤ n ∧ i = .int .i64 j ∧ Fill 50 2 ETlv zs xs w.heap.size n j w2 ∧ Below w.heap.size w w2) (fun i _ => n - (intOf i).toNat)
  case atStart => exact ⟨0, by omega, rfl, F1.out, B1.out⟩
  case round =>
    obtain ⟨j, hj, rfl, hfi, hb⟩ := hrel
    have Hf := Lib.hid hfi
    have Hb := Lib.hid hb
    clear hfi hb
    by_cases hlt : j < n
    · obtain ⟨ad, cs, hk, rfl, hcl, hca, u, rfl, hu⟩ := (Hv.out.below (fun _ _ h => h.below Hb.out) Hb.out).at_ hlt
      have c0 := hca.c0
      have c1 := hca.ci 0 rfl
      have Hu := Lib.hid hu
      clear hu hca hcl
      go_wp2_with fail
      refine (toOctTlv_any _ _ _ _ Hu.out (by have := Hx.out _ (List.getElem_mem hk); omega)).mono ?_
      rintro e w3 ⟨v', rfl, ho, hb3⟩
      clear c0 c1
      obtain ⟨d0, e0⟩ := Hf.out.cell hb3 (p := j * 2) (by omega)
      obtain ⟨d1, e1⟩ := Hf.out.cell hb3 (p := j * 2 + 1) (by omega)
      have z0 := Hf.out.frozen hb3 (j * 2)
      have z1 := Hf.out.frozen hb3 (j * 2 + 1)
      obtain ⟨A', c', rfl⟩ := (row_owb ho).rd.slice
      obtain ⟨s1, s2, s3⟩ := Hf.out.step ETlv.framed ETlv.inside Z.out hlt hb3 (List.getElem?_eq_getElem hk) (cs := [.int .i64 xs[j].kind, _]) rfl ⟨_, rfl, row_mono ho (Nat.zero_le _), rfl⟩ (by cases A' <;> simp [Value.ownBlock]) (fun b hb' => (ho.lt b (by simpa using hb')).1)
      have S1 := Lib.hid s1
      have S2 := Lib.hid ((Hb.out.trans (hb3.mono Hb.out.size)).trans (s2.below (by simp) (Nat.le_trans Hb.out.size hb3.size)))
      clear s1 s2 s3 ho hb3
      go_wp2
      exact ⟨⟨j + 1, by omega, by go_num, S1.out, S2.out⟩, by simp [intOf]; omega⟩
    · have : j = n := by omega
      subst this
      go_wp2
      go_ret
      obtain ⟨bs, h1, h2, h3⟩ := Hf.out.done Hl.out Z.out
      exact ⟨_, rfl, bs, h1, h2, h3, Hb.out⟩

theorem below2 (w : World) (a b : Obj) : Below w.heap.size w ((w.alloc a).alloc b) := ((Below.refl _ _).alloc (Nat.le_refl _) _).alloc (by simp) _
set_option maxHeartbeats 400000 in
theorem eqOctTlv_same (u v : Value) (k : Int) (xs : List UInt8) (w : World) (hu : RdB w u xs) (hv : RdB w v xs) (hn : xs.length ≤ 4294967296) :
    Calls Try.prog 26 #[.agg #[.int .i64 k, u], .agg #[.int .i64 k, v]] w fun e w' => e = .returned (.bool true) ∧ Below w.heap.size w w' := by
  have Hu := Lib.hid (hu.below (below2 w (.cells #[.int .i64 k, u] 50) (.cells #[.int .i64 k, v] 50)))
  have Hv := Lib.hid (hv.below (below2 w (.cells #[.int .i64 k, u] 50) (.cells #[.int .i64 k, v] 50)))
  clear hu hv
  go_enter Try.func26, Try.ntmps26
  go_wp2_with fail
  refine (eqByteS_any _ _ xs xs _ Hu.out Hv.out hn hn).mono ?_
  rintro e w' ⟨rfl, d, rfl⟩
  rw [beq_self_eq_true]
  go_wp2
  go_ret
  exact ⟨rfl, below_drewN (below2 _ _ _) _⟩

set_option maxRecDepth 100000 in
set_option maxHeartbeats 400000 in
theorem eqOctTlvS_same (u v : Value) (xs : List Tlv) (w : World) (hu : RdS 2 FTlv w u xs) (hv : RdS 2 FTlv w v xs) (hs : szL szTlv xs ≤ 1048576) :
    Calls Try.prog 10 #[u, v] w fun e w' => e = .returned (.bool true) ∧ Below w.heap.size w w' := by
  have hn : xs.length ≤ 1048576 := Nat.le_trans (szTlv_len _) hs
  have hx : ∀ x ∈ xs, x.body.length ≤ 1048576 := fun x h => Nat.le_trans (szTlv_mem h) hs
  clear hs
  obtain ⟨A, c, rfl⟩ := hv.slice
  obtain ⟨A', c', rfl⟩ := hu.slice
  have hcv := hv.cap
  have hcu := hu.cap
  have Hv := Lib.hid hv
  have Hu := Lib.hid hu
  have Hx := Lib.hid hx
  clear hv hu hx
  generalize hl : xs.length = n at *
  have Hl := Lib.hid hl
  clear hl
  go_enter Try.func10, Try.ntmps10
  go_wp2
  go_loopw [5] (fun i w2 => ∃ j : Nat, j ≤ n ∧ i = .int .i64 j ∧ Below w.heap.size w w2) (fun i _ => n - (intOf i).toNat)
  case atStart => exact ⟨0, by omega, rfl, Below.refl _ _⟩
  case round =>
    obtain ⟨j, hj, rfl, hb⟩ := hrel
    have Hb := Lib.hid hb
    clear hb
    by_cases hlt : j < n
    · obtain ⟨ad, cs, hk, rfl, hcl, hca, p, rfl, hp⟩ := (Hv.out.below (fun _ _ h => h.below Hb.out) Hb.out).at_ hlt
      obtain ⟨ad', cs', hk', rfl, hcl', hca', q, rfl, hq⟩ := (Hu.out.below (fun _ _ h => h.below Hb.out) Hb.out).at_ hlt
      have c0 := hca.c0
      have c1 := hca.ci 0 rfl
      have d0 := hca'.c0
      have d1 := hca'.ci 0 rfl
      have Hp := Lib.hid hp
      have Hq := Lib.hid hq
      clear hp hq hca hcl hca' hcl'
      go_wp2
      go_still_tail 8, (by kernel_rfl)
      go_wp2_with fail
      refine (eqOctTlv_same _ _ _ _ _ (by exact Hq.out) (by exact Hp.out) (by have := Hx.out _ (List.getElem_mem hk); omega)).mono ?_
      rintro e w3 ⟨rfl, hb3⟩
      have Hb3 := Lib.hid (Hb.out.trans ((below_of_drew hb3).mono Hb.out.size))
      clear hb3 c0 c1 d0 d1
      go_wp2
      exact ⟨⟨j + 1, by omega, by go_num, Hb3.out⟩, by simp [intOf]; omega⟩
    · go_wp2
      go_ret
      exact ⟨rfl, Hb.out⟩

/-- Marks of one. -/
def mkTlv (k : Int) (x : Tlv) : Tlv := ⟨k, marks (k + 1) x.body.length⟩
theorem markByteS_own (v : Value) (k : Int) (xs : List UInt8) (w : World) (hv : w.ownsRow 0 5 1 v xs.length (xs.map byt)) (hn : xs.length ≤ 4294967296) (hk : 0 ≤ k ∧ k ≤ 1099511627776) :
    Calls Try.prog 12 #[v, .int .i64 k] w fun e w' => e = .returned (.int .i64 (k + xs.length)) ∧ w'.ownsRow 0 5 1 v xs.length ((marks k xs.length).map byt) ∧ FrL v.ownBlock.toList w w' := by
  cases hg : v.ownBlock with
  | none =>
    have ho : OwB w w.heap.size w.heap.size v xs := by
      refine ⟨⟨hv.1, ?_⟩, fun k hk => by rw [hg] at hk; cases hk⟩
      rcases hv.2 with h | ⟨g, cap, cur, rfl, _⟩
      · exact .inl h
      · simp [Value.ownBlock] at hg
    refine (markByteS_any v k xs _ _ w ho hn hk).mono ?_
    rintro e w' ⟨rfl, h1, h2⟩
    refine ⟨rfl, row_mono (by have := h1.1; rw [marks_len] at this; exact this) (Nat.zero_le _), ⟨h2.os, h2.tape, h2.output, h2.size, fun k hk' _ => h2.block k hk' (.inl hk')⟩⟩
  | some g =>
    have ho : OwB w g (g + 1) v xs := by
      refine ⟨⟨hv.1, ?_⟩, fun k hk => by rw [hg] at hk; injection hk with hk; omega⟩
      rcases hv.2 with h | ⟨g', cap, cur, rfl, _, rest⟩
      · exact .inl h
      · simp [Value.ownBlock] at hg
        subst hg
        exact .inr ⟨_, cap, cur, rfl, Nat.le_refl _, rest⟩
    refine (markByteS_any v k xs _ _ w ho hn hk).mono ?_
    rintro e w' ⟨rfl, h1, h2⟩
    exact ⟨rfl, row_mono (by have := h1.1; rw [marks_len] at this; exact this) (Nat.zero_le _), FrL.of_fr h2⟩
theorem ownsRow_form0 {w : World} {base size n : Nat} {e : TypeId} {v : Value} {xs : List Value} (h : w.ownsRow base e size v n xs) (hn : 0 < n) : ∃ g cap, v = .slice (some ⟨g, 0, none⟩) n cap ∧ g < w.heap.size := by
  rcases h.2 with ⟨_, h0⟩ | ⟨g, cap, cur, hv, _, hg, _⟩
  · omega
  · exact ⟨g, cap, hv, (Array.getElem?_eq_some_iff.1 hg).1⟩
theorem OwL.form0 {α : Type} {e : TypeId} {m : Nat} {E : World → List Nat → List Value → α → Prop} {w : World} {bs : List Nat} {A : Option Addr} {n c : Nat} {xs : List α} (h : OwL e m E w bs (.slice A n c) xs) (hn : 0 < n) : ∃ g, A = some ⟨g, 0, none⟩ := by
  have hl := h.len
  obtain ⟨cells, fs, hr, _⟩ := h
  obtain ⟨g, cap, hv, _⟩ := ownsRow_form0 hr (by omega)
  injection hv with h1
  exact ⟨g, h1⟩

set_option maxRecDepth 100000 in
set_option maxHeartbeats 400000 in
theorem markOctTlvS_any (v : Value) (k : Int) (bs : List Nat) (xs : List Tlv) (w : World) (hv : OwL 50 2 ETlv w bs v xs) (hnd : bs.Nodup) (hk : 0 ≤ k) (hs : k + szL szTlv xs ≤ 4294967296) :
    Calls Try.prog 11 #[v, .int .i64 k] w fun e w' => e = .returned (.int .i64 (k + szL szTlv xs)) ∧ OwL 50 2 ETlv w' bs v (mkL mkTlv szTlv k xs) ∧ FrL bs w w' := by
  obtain ⟨A, c, rfl⟩ := hv.slice
  have hcv := (hv.rd (fun _ _ _ h => h.rd)).cap
  have Hv := Lib.hid hv
  have Hnd := Lib.hid hnd
  clear hv hnd
  generalize hl : xs.length = n at *
  have Hl := Lib.hid hl
  clear hl
  have Hs := Lib.hid hs
  clear hs
  go_enter Try.func11, Try.ntmps11
  go_wp2
  go_loopw [1, 5] (fun q i w2 => ∃ j : Nat, j ≤ n ∧ i = .int .i64 j ∧ q = .int .i64 (k + szL szTlv (xs.take j)) ∧ OwL 50 2 ETlv w2 bs (.slice A n c) (mkL mkTlv szTlv k (xs.take j) ++ xs.drop j) ∧ FrL bs w w2) (fun _ i _ => n - (intOf i).toNat)
  case atStart => exact ⟨0, by omega, rfl, by simp [szL], by simpa [mkL] using Hv.out, FrL.refl _ _⟩
  case round =>
    obtain ⟨j, hj, rfl, rfl, ho, hf⟩ := hrel
    have Ho := Lib.hid ho
    have Hf := Lib.hid hf
    clear ho hf
    by_cases hlt : j < n
    · obtain ⟨g, rfl⟩ := Ho.out.form0 (by omega)
      have hjx : j < xs.length := by rw [Hl.out]; exact hlt
      have hle := szL_take_le (sz := szTlv) (xs := xs) (j + 1)
      have hsu := szL_take_succ (sz := szTlv) hjx
      have hb0 := Hs.out
      have hq : k + szL szTlv (xs.take j) + 1 + xs[j].body.length ≤ 4294967296 := by have h1 : szTlv xs[j] = 1 + xs[j].body.length := rfl; rw [h1] at hsu; omega
      have Hsu := Lib.hid hsu
      clear hle hsu hb0
      obtain ⟨f, cs, pre, post, hjl, hE, hr, hpl, hcl, hgf, hfn, hfb, hgb, close⟩ := Ho.out.focus ETlv.framed ETlv.inside Hnd.out hlt
      have hget : (mkL mkTlv szTlv k (xs.take j) ++ xs.drop j)[j] = xs[j] := by
        have h1 := mkL_mid (mk := mkTlv) (sz := szTlv) (k := k) hjx
        rw [List.getElem?_eq_getElem hjl] at h1
        injection h1
      rw [hget] at hE
      have Hset := Lib.hid (mkL_set (mk := mkTlv) (sz := szTlv) (k := k) hjx)
      generalize szL szTlv (xs.take j) = s at *
      obtain ⟨u, rfl, hu, rfl⟩ := hE
      obtain ⟨r1, r2, r3⟩ := putCells_row [.int .i64 (k + s)] (j * 2) hr
      rw [show pre ++ [Value.int .i64 xs[j].kind, u] ++ post = pre ++ [Value.int .i64 xs[j].kind] ++ (u :: post) by simp, setMany_mid [.int .i64 (k + s)] pre [.int .i64 xs[j].kind] (u :: post) (j * 2) hpl rfl] at r1
      have c0 : wr.cell? ⟨g, j * 2, none⟩ = some (.int .i64 xs[j].kind) := by
        rw [hr.cellAt (j * 2) (by omega), ← hpl]; simp
      have c1 : wr.cell? ⟨g, j * 2 + 1, none⟩ = some u := by
        rw [hr.cellAt (j * 2 + 1) (by omega), ← hpl, List.append_assoc, List.getElem?_append_right (by omega)]; simp
      have z0 := hr.frozenAt (j * 2)
      have hu1 : (putCells wr g (j * 2) [.int .i64 (k + s)]).ownsRow 0 5 1 u xs[j].body.length (xs[j].body.map byt) := ownsRow_block hu (fun b hb => r2.block b (ownsRow_inside hu b hb) (by
        simp only [List.mem_singleton]; rintro rfl; exact hgf hb))
      have Hu := Lib.hid hu1
      have Hr := Lib.hid r1
      have H2 := Lib.hid r2
      have Hc := Lib.hid close
      have Hgf := Lib.hid hgf
      have Hfb := Lib.hid hfb
      have Hgb := Lib.hid hgb
      clear hu1 r1 r2 r3 close hgf hfb hgb hu hget hfn hcl hr
      go_wp2_with fail
      refine (markByteS_own _ _ _ _ (by exact Hu.out) (by omega) (by omega)).mono ?_
      rintro e w3 ⟨rfl, h1, h2⟩
      have H1 := Lib.hid h1
      have H3 := Lib.hid h2
      clear h1 h2 c0 c1 z0
      have hfin : OwL 50 2 ETlv w3 bs (.slice (some ⟨g, 0, none⟩) n c) (mkL mkTlv szTlv k (xs.take (j + 1)) ++ xs.drop (j + 1)) := by
        rw [← Hset.out]
        refine Hc.out w3 [.int .i64 (k + s), u] _ ?_ rfl ?_ ⟨u, rfl, by simp only [mkTlv, marks_len]; exact H1.out, rfl⟩
        · rw [show pre ++ [Value.int .i64 (k + s), u] ++ post = pre ++ [Value.int .i64 (k + s)] ++ (u :: post) by simp]
          exact ownsRow_block Hr.out (fun b hb => H3.out.block b (ownsRow_inside Hr.out b hb) (by
            simp [Value.ownBlock] at hb; subst hb; exact Hgf.out))
        · exact (H2.out.mono (by simp)).trans (H3.out.mono (by intro b hb; exact List.mem_cons_of_mem _ hb))
      have hfr : FrL bs w w3 := (Hf.out.trans (H2.out.mono (by intro b hb; rw [List.mem_singleton.1 hb]; exact Hgb.out))).trans (H3.out.mono Hfb.out)
      have Hfin := Lib.hid hfin
      have Hfr := Lib.hid hfr
      clear hfin hfr
      go_wp2
      exact ⟨⟨j + 1, by omega, by go_num, congrArg _ (by rw [Hsu.out]; simp only [szTlv]; omega), Hfin.out, Hfr.out⟩, by simp [intOf]; omega⟩
    · have : j = n := by omega
      subst this
      have ho := Ho.out
      rw [List.take_of_length_le (by rw [Hl.out]; omega), List.drop_of_length_le (by rw [Hl.out]; omega), List.append_nil] at ho
      have Hx := Lib.hid (List.take_of_length_le (l := xs) (i := j) (by rw [Hl.out]; omega))
      go_wp2
      go_ret
      exact ⟨retI (by rw [Hx.out]), ho, Hf.out⟩

end Go.Proofs.Ytegiifgeidccaaa
