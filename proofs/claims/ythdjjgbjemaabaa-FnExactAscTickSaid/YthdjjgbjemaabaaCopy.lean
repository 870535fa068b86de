/-
  Copies in new memory: bytes, one unit and one piece, lists of units and of pieces: the contracts of both programs' functions. (Written by wip/tools/gencopy.py.)
-/
import Derived.Test.YthdjjgbjemaabaaMark
import Derived.Test.YthdjjgbjemaabaaApp
import Derived.Test.YthdjjgbjemaabaaTyDatUnit
import Derived.Test.YthdjjgbjemaabaaTyDatPiece
namespace Go.Proofs.Ythdjjgbjemaabaa
open Go.ChangeShapes Go.WideShapes Go.ChangeAt Go.RowKit
set_option linter.unusedVariables false
set_option linter.unusedSimpArgs false

set_option maxHeartbeats 400000 in
theorem ascOwn_n (v : Value) (xs : List UInt8) (w : World) (hv : RdB w v xs) (hn : xs.length ≤ 1048576) : Calls Try.prog 238 #[v] w fun e w' => ∃ v' f, e = .returned v' ∧ OwBy w' f v' xs ∧ Nw w.heap.size w'.heap.size f ∧ Below w.heap.size w w' := by
  have Hv := Lib.hid hv
  obtain ⟨A, c, rfl⟩ := hv.slice
  clear hv
  go_enter Try.func238, Try.ntmps238
  go_wp2_with (at_builtin; refine wpList_appB (lo := w.heap.size) (hi := w.heap.size) _ rfl (.const (.slice none 0 0)) (.tmp 3) rfl rfl rfl (OwB.nil _ _ _) Hv.out (by simp; omega) (Nat.le_refl _) ?_)
  intro v' w1 ho hk hg
  try rw [List.nil_append] at ho
  have Ho := Lib.hid ho
  have Hg := Lib.hid hg
  clear ho hk hg
  go_wp2
  go_ret
  exact ⟨v', _, rfl, ⟨row_mono Ho.out.1 (Nat.zero_le _), rfl⟩, own_nw (fun k hk => Ho.out.1.lt k hk), (Below.refl _ _).grown Hg.out (Nat.le_refl _) (by simp [Value.ownBlock])⟩


set_option maxRecDepth 100000 in
set_option maxHeartbeats 1000000 in
theorem l8Unit_n (cs : List Value) (x : DDatUnit) (w : World) (h : FDatUnit w cs x) (hz : x.xBody.length ≤ 1048576) : Calls Try.prog 183 #[.agg cs.toArray] w fun e w' => ∃ cs' f, e = .returned (.agg cs'.toArray) ∧ EDatUnit w' f cs' x ∧ Nw w.heap.size w'.heap.size f ∧ Below w.heap.size w w' := by
  obtain ⟨v3, rfl, h3⟩ := h
  have Hv := Lib.hid h3
  obtain ⟨A3, c3, rfl⟩ := h3.slice
  have hcap := h3.cap
  clear h3
  generalize hnb : x.xBody.length = nb at *
  have Hnb := Lib.hid hnb
  clear hnb
  have K := Lib.hid ((Blk.new (w := w) (b := w.heap.size) #[.int .i64 x.xMark, .int .i64 x.xStream, .bool x.xLoose, .slice A3 nb c3] 106 rfl).alloc (.cells #[.int .i64 0, .int .i64 0, .bool false, .slice none 0 0] 106))
  have R := Lib.hid (Blk.new (w := w.alloc (.cells #[.int .i64 x.xMark, .int .i64 x.xStream, .bool x.xLoose, .slice A3 nb c3] 106)) (b := w.heap.size + 1) #[.int .i64 0, .int .i64 0, .bool false, .slice none 0 0] 106 (by simp))
  have HB := Lib.hid (((Below.refl w.heap.size w).alloc (Nat.le_refl _) (.cells #[.int .i64 x.xMark, .int .i64 x.xStream, .bool x.xLoose, .slice A3 nb c3] 106)).alloc (by simp) (.cells #[.int .i64 0, .int .i64 0, .bool false, .slice none 0 0] 106))
  go_enter Try.func183, Try.ntmps183
  have Hrd := Lib.hid (Hv.out.below (HB.out.alloc (by simp; omega) (.cells #[] 5)))
  have ho0 := OwB.lit ((w.alloc (.cells #[.int .i64 x.xMark, .int .i64 x.xStream, .bool x.xLoose, .slice A3 nb c3] 106)).alloc (.cells #[.int .i64 0, .int .i64 0, .bool false, .slice none 0 0] 106)) #[] [] 0 (w.heap.size + 2) rfl rfl (by unfold maxLen; omega) (by simp)
  simp only [World.size_alloc] at ho0
  have HO := Lib.hid ho0
  clear ho0
  go_wp2_with (at_builtin; go_loud (refine wpList_appB (lo := w.heap.size + 2) _ rfl (.tmp 3) (.tmp 5) rfl rfl rfl HO.out Hrd.out ?_ ?_ ?_))
  · have := Hnb.out; first | omega | (simp; omega)
  intro v' w1 ho hk hg
  try rw [List.nil_append] at ho
  have b1 : Below (w.heap.size + 2) ((w.alloc (.cells #[.int .i64 x.xMark, .int .i64 x.xStream, .bool x.xLoose, .slice A3 nb c3] 106)).alloc (.cells #[.int .i64 0, .int .i64 0, .bool false, .slice none 0 0] 106)) w1 := ((Below.refl _ _).alloc (by simp) _).grown hg (by simp <;> omega) (by simp [Value.ownBlock] <;> omega)
  have O := Lib.hid (show OwBy w1 v'.ownBlock.toList v' x.xBody from ⟨row_mono ho.1 (Nat.zero_le _), rfl⟩)
  have Nn := Lib.hid (own_nw (lo := w.heap.size + 2) (fun k hk => ho.1.lt k hk))
  have Z := Lib.hid (show w.heap.size + 2 ≤ w1.heap.size by have := b1.size; simpa using this)
  have K := Lib.hid (K.out.below b1 (by omega))
  have R := Lib.hid (R.out.below b1 (by omega))
  have HB := Lib.hid (HB.out.trans (b1.mono (by omega)))
  obtain ⟨B, d, rfl⟩ := ho.rd.slice
  rw [Hnb.out] at *
  clear ho hk hg b1
  have k0 := K.out.at (i := 0) rfl
  have r0 := R.out.at (i := 0) rfl
  have y0 := K.out.frozen 0
  have z0 := R.out.frozen 0
  have k1 := K.out.at (i := 1) rfl
  have r1 := R.out.at (i := 1) rfl
  have y1 := K.out.frozen 1
  have z1 := R.out.frozen 1
  have k2 := K.out.at (i := 2) rfl
  have r2 := R.out.at (i := 2) rfl
  have y2 := K.out.frozen 2
  have z2 := R.out.frozen 2
  have k3 := K.out.at (i := 3) rfl
  have r3 := R.out.at (i := 3) rfl
  have y3 := K.out.frozen 3
  have z3 := R.out.frozen 3
  go_wp2
  refine bodyPost_ret (v := .agg #[.int .i64 x.xMark, .int .i64 x.xStream, .bool x.xLoose, .slice B nb d]) (by simp [results, Try.results183, go_sem, k0, r0, k1, r1, k2, r2, k3, r3]) rfl ?_
  first | refine ⟨[.int .i64 x.xMark, .int .i64 x.xStream, .bool x.xLoose, .slice B nb d], (Value.ownBlock (.slice B nb d)).toList, rfl, ⟨_, _, rfl, ?_, rfl⟩, ?_, ?_⟩ | refine ⟨[.int .i64 x.xMark, .int .i64 x.xStream, .bool x.xLoose, .slice B nb d], rfl, (Value.ownBlock (.slice B nb d)).toList, ⟨_, _, rfl, ?_, rfl⟩, ?_, ?_⟩
  · have G0 := Lib.hid (show w.heap.size ∉ (Value.ownBlock (.slice B nb d)).toList from fun h => by have := (Nn.out.2 _ h).1; omega)
    have G1 := Lib.hid (show w.heap.size + 1 ∉ (Value.ownBlock (.slice B nb d)).toList from fun h => by have := (Nn.out.2 _ h).1; omega)
    repeat first | with_reducible exact O.out | with_reducible refine OwBy.set ?_ G0.out | with_reducible refine OwBy.set ?_ G1.out
  · exact Nn.out.mono (by omega) (by simp [size_set])
  · have hb := HB.out
    repeat first | with_reducible exact Below.refl _ _ | with_reducible assumption | with_reducible refine Below.setCell ?_ (by simp <;> omega) _ | with_reducible refine Below.alloc ?_ (by simp <;> omega) _ | with_reducible refine Below.drew ?_

set_option maxRecDepth 100000 in
set_option maxHeartbeats 1000000 in
theorem datUnitOwn_n (cs : List Value) (x : DDatUnit) (w : World) (h : FDatUnit w cs x) (hz : x.xBody.length ≤ 1048576) : Calls Try.prog 262 #[.agg cs.toArray] w fun e w' => ∃ cs' f, e = .returned (.agg cs'.toArray) ∧ EDatUnit w' f cs' x ∧ Nw w.heap.size w'.heap.size f ∧ Below w.heap.size w w' := by
  obtain ⟨v3, rfl, h3⟩ := h
  have Hv := Lib.hid h3
  obtain ⟨A3, c3, rfl⟩ := h3.slice
  have hcap := h3.cap
  clear h3
  generalize hnb : x.xBody.length = nb at *
  have Hnb := Lib.hid hnb
  clear hnb
  have K := Lib.hid ((Blk.new (w := w) (b := w.heap.size) #[.int .i64 x.xMark, .int .i64 x.xStream, .bool x.xLoose, .slice A3 nb c3] 106 rfl).alloc (.cells #[.int .i64 0, .int .i64 0, .bool false, .slice none 0 0] 106))
  have R := Lib.hid (Blk.new (w := w.alloc (.cells #[.int .i64 x.xMark, .int .i64 x.xStream, .bool x.xLoose, .slice A3 nb c3] 106)) (b := w.heap.size + 1) #[.int .i64 0, .int .i64 0, .bool false, .slice none 0 0] 106 (by simp))
  have HB := Lib.hid (((Below.refl w.heap.size w).alloc (Nat.le_refl _) (.cells #[.int .i64 x.xMark, .int .i64 x.xStream, .bool x.xLoose, .slice A3 nb c3] 106)).alloc (by simp) (.cells #[.int .i64 0, .int .i64 0, .bool false, .slice none 0 0] 106))
  go_enter Try.func262, Try.ntmps262
  go_wp2_with fail
  refine (ascOwn_n _ x.xBody _ (Hv.out.below HB.out) (by rw [Hnb.out]; exact hz)).mono ?_
  rintro e w1 ⟨v', f, rfl, ho, hn1, b1⟩
  have b1' : Below (w.heap.size + 2) ((w.alloc (.cells #[.int .i64 x.xMark, .int .i64 x.xStream, .bool x.xLoose, .slice A3 nb c3] 106)).alloc (.cells #[.int .i64 0, .int .i64 0, .bool false, .slice none 0 0] 106)) w1 := by simpa using b1
  have O := Lib.hid ho
  have Nn := Lib.hid (hn1.mono (lo' := w.heap.size + 2) (by simp) (Nat.le_refl _))
  have K := Lib.hid (K.out.below b1' (by omega))
  have R := Lib.hid (R.out.below b1' (by omega))
  have HB := Lib.hid (HB.out.trans (b1'.mono (by omega)))
  obtain ⟨B, d, rfl⟩ := ho.rd.slice
  rw [Hnb.out] at *
  clear ho hn1 b1 b1'
  have k0 := K.out.at (i := 0) rfl
  have r0 := R.out.at (i := 0) rfl
  have y0 := K.out.frozen 0
  have z0 := R.out.frozen 0
  have k1 := K.out.at (i := 1) rfl
  have r1 := R.out.at (i := 1) rfl
  have y1 := K.out.frozen 1
  have z1 := R.out.frozen 1
  have k2 := K.out.at (i := 2) rfl
  have r2 := R.out.at (i := 2) rfl
  have y2 := K.out.frozen 2
  have z2 := R.out.frozen 2
  have k3 := K.out.at (i := 3) rfl
  have r3 := R.out.at (i := 3) rfl
  have y3 := K.out.frozen 3
  have z3 := R.out.frozen 3
  go_wp2
  refine bodyPost_ret (v := .agg #[.int .i64 x.xMark, .int .i64 x.xStream, .bool x.xLoose, .slice B nb d]) (by simp [results, Try.results262, go_sem, k0, r0, k1, r1, k2, r2, k3, r3]) rfl ?_
  first | refine ⟨[.int .i64 x.xMark, .int .i64 x.xStream, .bool x.xLoose, .slice B nb d], f, rfl, ⟨_, _, rfl, ?_, rfl⟩, ?_, ?_⟩ | refine ⟨[.int .i64 x.xMark, .int .i64 x.xStream, .bool x.xLoose, .slice B nb d], rfl, f, ⟨_, _, rfl, ?_, rfl⟩, ?_, ?_⟩
  · have G0 := Lib.hid (show w.heap.size ∉ f from fun h => by have := (Nn.out.2 _ h).1; omega)
    have G1 := Lib.hid (show w.heap.size + 1 ∉ f from fun h => by have := (Nn.out.2 _ h).1; omega)
    repeat first | with_reducible exact O.out | with_reducible refine OwBy.set ?_ G0.out | with_reducible refine OwBy.set ?_ G1.out
  · exact Nn.out.mono (by omega) (by simp [size_set])
  · have hb := HB.out
    repeat first | with_reducible exact Below.refl _ _ | with_reducible assumption | with_reducible refine Below.setCell ?_ (by simp <;> omega) _ | with_reducible refine Below.alloc ?_ (by simp <;> omega) _ | with_reducible refine Below.drew ?_

set_option maxRecDepth 100000 in
theorem elemDatUnit : Elem Try.prog 82 106 4 := by
  obtain ⟨i0, hi0, hz0, hz1, hz2⟩ := info_parts2 info_DatUnit infob_DatUnit
  exact ⟨i0, _, Try.underlying82, hi0, hz0, hz1, hz2, rfl, by decide⟩
set_option maxRecDepth 100000 in
set_option maxHeartbeats 2000000 in
theorem l8Units_n (v : Value) (xs : List DDatUnit) (w : World) (hv : RdDatUnitS w v xs) (hz : zL zDatUnit xs ≤ 1048576) : Calls Try.prog 245 #[v] w fun e w' => ∃ v' f, e = .returned v' ∧ OwDatUnitS w' f v' xs ∧ Nw w.heap.size w'.heap.size f ∧ Below w.heap.size w w' := by
  unfold OwDatUnitS
  have hn : xs.length ≤ 1048576 := by unfold zL at hz; omega
  have Hx := Lib.hid (show ∀ x ∈ xs, x.xBody.length ≤ 1048576 from fun x h => by have h1 := szL_mem (z := zDatUnit) h; have h2 : zDatUnit x = x.xBody.length := rfl; unfold zL at hz; omega)
  clear hz
  obtain ⟨A, c, rfl⟩ := RdS.slice hv
  have hcv := RdS.cap hv
  generalize hl : xs.length = n at *
  have Hl := Lib.hid hl
  have Hv := Lib.hid hv
  clear hl hv
  go_enter Try.func245, Try.ntmps245
  go_wp2
  go_loopw [3, 4] (fun q i w1 => ∃ (j : Nat) (bs : List Nat), j ≤ n ∧ i = .int .i64 j ∧ OwL 106 4 EDatUnit w1 bs q (xs.take j) ∧ Nw w.heap.size w1.heap.size bs ∧ Below w.heap.size w w1) (fun _ i _ => n - (intOf i).toNat)
  case atStart => exact ⟨0, [w.heap.size], by omega, rfl, OwL.lit0 w, ⟨by simp, by simp⟩, (Below.refl _ _).alloc (Nat.le_refl _) _⟩
  case round =>
    obtain ⟨j, bs, hj, rfl, ho, hnw, hb⟩ := hrel
    have Ho := Lib.hid ho
    have Hn := Lib.hid hnw
    have Hb := Lib.hid hb
    clear ho hnw hb
    by_cases hlt : j < n
    · obtain ⟨ad, cs, hk, rfl, hcl, hca, hE⟩ := RdS.at_ (Hv.out.below Hb.out) hlt
      have HE := Lib.hid hE
      obtain ⟨v3, rfl, h3⟩ := hE
      obtain ⟨A3, e3, rfl⟩ := h3.slice
      have c0 := hca.c0
      have c1 := hca.ci 0 rfl
      have c2 := hca.ci 1 rfl
      have c3 := hca.ci 2 rfl
      clear hca hcl h3
      go_wp2_with fail
      refine (l8Unit_n _ xs[j] _ HE.out (Hx.out _ (List.getElem_mem hk))).mono ?_
      rintro e w3 ⟨cs', f', rfl, hE', hn', hb3⟩
      clear c0 c1 c2 c3
      have hlo := Nat.le_trans Hb.out.size (Nat.le_refl _)
      have Hf := Lib.hid (hn'.mono (lo' := w.heap.size) hlo (Nat.le_refl _))
      replace Ho := Lib.hid (Ho.out.below EDatUnit.framed EDatUnit.inside hb3)
      replace Hb := Lib.hid (Hb.out.trans (hb3.mono Hb.out.size))
      have Hd := Lib.hid (show ∀ b ∈ f', b ∉ bs from fun b h1 h2 => by have h3 := (Hn.out.2 b h2).2; have h4 := (hn'.2 b h1).1; first | omega | (simp at h3 h4; omega))
      replace Hn := Lib.hid (Hn.out.mono (Nat.le_refl _) hb3.size)
      obtain ⟨u3, g3, rfl, o3, rfl⟩ := id hE'
      obtain ⟨B, d, rfl⟩ := o3.rd.slice
      have b4 := (Below.refl w3.heap.size w3).alloc (Nat.le_refl _) (.cells #[.int .i64 xs[j].xMark, .int .i64 xs[j].xStream, .bool xs[j].xLoose, .slice B xs[j].xBody.length d] 106)
      have KN := Lib.hid (Blk.new (w := w3) (b := w3.heap.size) #[.int .i64 xs[j].xMark, .int .i64 xs[j].xStream, .bool xs[j].xLoose, .slice B xs[j].xBody.length d] 106 rfl)
      have HE' := Lib.hid (show EDatUnit (w3.alloc (.cells #[.int .i64 xs[j].xMark, .int .i64 xs[j].xStream, .bool xs[j].xLoose, .slice B xs[j].xBody.length d] 106)) _ _ _ from EDatUnit.framed _ _ _ _ _ hE' (fun b hb => b4.block b (EDatUnit.inside _ _ _ _ hE' b hb)))
      replace Ho := Lib.hid (Ho.out.below EDatUnit.framed EDatUnit.inside b4)
      replace Hn := Lib.hid (Hn.out.mono (Nat.le_refl _) b4.size)
      replace Hf := Lib.hid (Hf.out.mono (Nat.le_refl _) b4.size)
      have Hlo := Lib.hid (show w.heap.size ≤ (w3.alloc (.cells #[.int .i64 xs[j].xMark, .int .i64 xs[j].xStream, .bool xs[j].xLoose, .slice B xs[j].xBody.length d] 106)).heap.size from Nat.le_trans Hb.out.size b4.size)
      replace Hb := Lib.hid (Hb.out.trans (b4.mono Hb.out.size))
      have Hlen := Lib.hid (show (xs.take j).length + [xs[j]].length ≤ 1073741824 by simp; omega)
      clear hE' hn' hb3 o3 b4 hlo
      go_wp2_with (at_builtin; go_loud (refine wpList_push (lo := w.heap.size) (a := ⟨w3.heap.size, 0, none⟩) (c := 1) (ys := [xs[j]]) EDatUnit.framed EDatUnit.inside elemDatUnit _ rfl (.tmp 12) (.tmp 18) rfl rfl rfl Ho.out Hn.out Hlo.out (Els.one HE'.out rfl) (by simpa using Hf.out) (by simpa using Hd.out) (fun i u hu => by rw [add_zero_blk]; exact KN.out.at hu) (by simp [Value.oneCell']) Hlen.out ?_))
      intro v' w4 bs' h1 h2 h3 _
      try rw [← List.take_succ_eq_append_getElem hk] at h1
      have H1 := Lib.hid h1
      have H2 := Lib.hid h2
      have H3 := Lib.hid (Hb.out.grown h3 Hlo.out (fun k hk' => (Hn.out.2 k (Ho.out.own_mem k (by simp [hk']))).1))
      clear h1 h2 h3 KN
      go_wp2
      exact ⟨⟨j + 1, bs', by omega, by go_num, H1.out, H2.out, H3.out⟩, by simp [intOf]; omega⟩
    · have : j = n := by omega
      subst this
      have ho := Ho.out
      rw [List.take_of_length_le (by rw [Hl.out]; omega)] at ho
      go_wp2
      go_ret
      exact ⟨_, bs, rfl, ho, Hn.out, Hb.out⟩

set_option maxRecDepth 100000 in
set_option maxHeartbeats 2000000 in
theorem datOwnDatUnit_n (v : Value) (xs : List DDatUnit) (w : World) (hv : RdDatUnitS w v xs) (hz : zL zDatUnit xs ≤ 1048576) : Calls Try.prog 261 #[v, .func (.func 262) #[] #[]] w fun e w' => ∃ v' f, e = .returned v' ∧ OwDatUnitS w' f v' xs ∧ Nw w.heap.size w'.heap.size f ∧ Below w.heap.size w w' := by
  unfold OwDatUnitS
  have hn : xs.length ≤ 1048576 := by unfold zL at hz; omega
  have Hx := Lib.hid (show ∀ x ∈ xs, x.xBody.length ≤ 1048576 from fun x h => by have h1 := szL_mem (z := zDatUnit) h; have h2 : zDatUnit x = x.xBody.length := rfl; unfold zL at hz; omega)
  clear hz
  obtain ⟨A, c, rfl⟩ := RdS.slice hv
  have hcv := RdS.cap hv
  generalize hl : xs.length = n at *
  have Hl := Lib.hid hl
  have Hv := Lib.hid hv
  clear hl hv
  go_enter Try.func261, Try.ntmps261
  go_wp2
  go_loopw [5, 10] (fun q i w1 => ∃ (j : Nat) (bs : List Nat), j ≤ n ∧ i = .int .i64 j ∧ OwL 106 4 EDatUnit w1 bs q (xs.take j) ∧ Nw w.heap.size w1.heap.size bs ∧ Below w.heap.size w w1) (fun _ i _ => n - (intOf i).toNat)
  case atStart => exact ⟨0, [], by omega, rfl, OwL.nil w, Nw.nil _ _, Below.refl _ _⟩
  case round =>
    obtain ⟨j, bs, hj, rfl, ho, hnw, hb⟩ := hrel
    have Ho := Lib.hid ho
    have Hn := Lib.hid hnw
    have Hb := Lib.hid hb
    clear ho hnw hb
    by_cases hlt : j < n
    · obtain ⟨ad, cs, hk, rfl, hcl, hca, hE⟩ := RdS.at_ (Hv.out.below Hb.out) hlt
      have HE := Lib.hid hE
      obtain ⟨v3, rfl, h3⟩ := hE
      obtain ⟨A3, e3, rfl⟩ := h3.slice
      have c0 := hca.c0
      have c1 := hca.ci 0 rfl
      have c2 := hca.ci 1 rfl
      have c3 := hca.ci 2 rfl
      clear hca hcl h3
      have b0 := (Below.refl wr.heap.size wr).alloc (Nat.le_refl _) (.cells #[.int .i64 xs[j].xMark, .int .i64 xs[j].xStream, .bool xs[j].xLoose, .slice A3 xs[j].xBody.length e3] 106)
      replace HE := Lib.hid (HE.out.below b0)
      replace Ho := Lib.hid (Ho.out.below EDatUnit.framed EDatUnit.inside b0)
      replace Hn := Lib.hid (Hn.out.mono (Nat.le_refl _) b0.size)
      replace Hb := Lib.hid (Hb.out.trans (b0.mono Hb.out.size))
      clear b0
      go_wp2_with fail
      refine (datUnitOwn_n _ xs[j] _ HE.out (Hx.out _ (List.getElem_mem hk))).mono ?_
      rintro e w3 ⟨cs', f', rfl, hE', hn', hb3⟩
      clear c0 c1 c2 c3
      have hlo := Nat.le_trans Hb.out.size (Nat.le_refl _)
      have Hf := Lib.hid (hn'.mono (lo' := w.heap.size) hlo (Nat.le_refl _))
      replace Ho := Lib.hid (Ho.out.below EDatUnit.framed EDatUnit.inside hb3)
      replace Hb := Lib.hid (Hb.out.trans (hb3.mono Hb.out.size))
      have Hd := Lib.hid (show ∀ b ∈ f', b ∉ bs from fun b h1 h2 => by have h3 := (Hn.out.2 b h2).2; have h4 := (hn'.2 b h1).1; first | omega | (simp at h3 h4; omega))
      replace Hn := Lib.hid (Hn.out.mono (Nat.le_refl _) hb3.size)
      obtain ⟨u3, g3, rfl, o3, rfl⟩ := id hE'
      obtain ⟨B, d, rfl⟩ := o3.rd.slice
      have b4 := (Below.refl w3.heap.size w3).alloc (Nat.le_refl _) (.cells #[.int .i64 xs[j].xMark, .int .i64 xs[j].xStream, .bool xs[j].xLoose, .slice B xs[j].xBody.length d] 106)
      have KN := Lib.hid (Blk.new (w := w3) (b := w3.heap.size) #[.int .i64 xs[j].xMark, .int .i64 xs[j].xStream, .bool xs[j].xLoose, .slice B xs[j].xBody.length d] 106 rfl)
      have HE' := Lib.hid (show EDatUnit (w3.alloc (.cells #[.int .i64 xs[j].xMark, .int .i64 xs[j].xStream, .bool xs[j].xLoose, .slice B xs[j].xBody.length d] 106)) _ _ _ from EDatUnit.framed _ _ _ _ _ hE' (fun b hb => b4.block b (EDatUnit.inside _ _ _ _ hE' b hb)))
      replace Ho := Lib.hid (Ho.out.below EDatUnit.framed EDatUnit.inside b4)
      replace Hn := Lib.hid (Hn.out.mono (Nat.le_refl _) b4.size)
      replace Hf := Lib.hid (Hf.out.mono (Nat.le_refl _) b4.size)
      have Hlo := Lib.hid (show w.heap.size ≤ (w3.alloc (.cells #[.int .i64 xs[j].xMark, .int .i64 xs[j].xStream, .bool xs[j].xLoose, .slice B xs[j].xBody.length d] 106)).heap.size from Nat.le_trans Hb.out.size b4.size)
      replace Hb := Lib.hid (Hb.out.trans (b4.mono Hb.out.size))
      have Hlen := Lib.hid (show (xs.take j).length + [xs[j]].length ≤ 1073741824 by simp; omega)
      clear hE' hn' hb3 o3 b4 hlo
      go_wp2_with (at_builtin; go_loud (refine wpList_push (lo := w.heap.size) (a := ⟨w3.heap.size, 0, none⟩) (c := 1) (ys := [xs[j]]) EDatUnit.framed EDatUnit.inside elemDatUnit _ rfl (.tmp 14) (.tmp 18) rfl rfl rfl Ho.out Hn.out Hlo.out (Els.one HE'.out rfl) (by simpa using Hf.out) (by simpa using Hd.out) (fun i u hu => by rw [add_zero_blk]; exact KN.out.at hu) (by simp [Value.oneCell']) Hlen.out ?_))
      intro v' w4 bs' h1 h2 h3 _
      try rw [← List.take_succ_eq_append_getElem hk] at h1
      have H1 := Lib.hid h1
      have H2 := Lib.hid h2
      have H3 := Lib.hid (Hb.out.grown h3 Hlo.out (fun k hk' => (Hn.out.2 k (Ho.out.own_mem k (by simp [hk']))).1))
      clear h1 h2 h3 KN
      go_wp2
      exact ⟨⟨j + 1, bs', by omega, by go_num, H1.out, H2.out, H3.out⟩, by simp [intOf]; omega⟩
    · have : j = n := by omega
      subst this
      have ho := Ho.out
      rw [List.take_of_length_le (by rw [Hl.out]; omega)] at ho
      go_wp2
      go_ret
      exact ⟨_, bs, rfl, ho, Hn.out, Hb.out⟩

set_option maxRecDepth 100000 in
set_option maxHeartbeats 1000000 in
theorem l8Piece_n (cs : List Value) (x : DDatPiece) (w : World) (h : FDatPiece w cs x) (hz : x.xBody.length ≤ 1048576) : Calls Try.prog 246 #[.agg cs.toArray] w fun e w' => ∃ cs' f, e = .returned (.agg cs'.toArray) ∧ EDatPiece w' f cs' x ∧ Nw w.heap.size w'.heap.size f ∧ Below w.heap.size w w' := by
  obtain ⟨v6, rfl, h6⟩ := h
  have Hv := Lib.hid h6
  obtain ⟨A6, c6, rfl⟩ := h6.slice
  have hcap := h6.cap
  clear h6
  generalize hnb : x.xBody.length = nb at *
  have Hnb := Lib.hid hnb
  clear hnb
  have K := Lib.hid ((Blk.new (w := w) (b := w.heap.size) #[.int .i64 x.xTsn, .int .i64 x.xStream, .int .i64 x.xSsn, .bool x.xFirst, .bool x.xLast, .bool x.xLoose, .slice A6 nb c6] 276 rfl).alloc (.cells #[.int .i64 0, .int .i64 0, .int .i64 0, .bool false, .bool false, .bool false, .slice none 0 0] 276))
  have R := Lib.hid (Blk.new (w := w.alloc (.cells #[.int .i64 x.xTsn, .int .i64 x.xStream, .int .i64 x.xSsn, .bool x.xFirst, .bool x.xLast, .bool x.xLoose, .slice A6 nb c6] 276)) (b := w.heap.size + 1) #[.int .i64 0, .int .i64 0, .int .i64 0, .bool false, .bool false, .bool false, .slice none 0 0] 276 (by simp))
  have HB := Lib.hid (((Below.refl w.heap.size w).alloc (Nat.le_refl _) (.cells #[.int .i64 x.xTsn, .int .i64 x.xStream, .int .i64 x.xSsn, .bool x.xFirst, .bool x.xLast, .bool x.xLoose, .slice A6 nb c6] 276)).alloc (by simp) (.cells #[.int .i64 0, .int .i64 0, .int .i64 0, .bool false, .bool false, .bool false, .slice none 0 0] 276))
  go_enter Try.func246, Try.ntmps246
  have Hrd := Lib.hid (Hv.out.below (HB.out.alloc (by simp; omega) (.cells #[] 5)))
  have ho0 := OwB.lit ((w.alloc (.cells #[.int .i64 x.xTsn, .int .i64 x.xStream, .int .i64 x.xSsn, .bool x.xFirst, .bool x.xLast, .bool x.xLoose, .slice A6 nb c6] 276)).alloc (.cells #[.int .i64 0, .int .i64 0, .int .i64 0, .bool false, .bool false, .bool false, .slice none 0 0] 276)) #[] [] 0 (w.heap.size + 2) rfl rfl (by unfold maxLen; omega) (by simp)
  simp only [World.size_alloc] at ho0
  have HO := Lib.hid ho0
  clear ho0
  go_wp2_with (at_builtin; go_loud (refine wpList_appB (lo := w.heap.size + 2) _ rfl (.tmp 3) (.tmp 5) rfl rfl rfl HO.out Hrd.out ?_ ?_ ?_))
  · have := Hnb.out; first | omega | (simp; omega)
  intro v' w1 ho hk hg
  try rw [List.nil_append] at ho
  have b1 : Below (w.heap.size + 2) ((w.alloc (.cells #[.int .i64 x.xTsn, .int .i64 x.xStream, .int .i64 x.xSsn, .bool x.xFirst, .bool x.xLast, .bool x.xLoose, .slice A6 nb c6] 276)).alloc (.cells #[.int .i64 0, .int .i64 0, .int .i64 0, .bool false, .bool false, .bool false, .slice none 0 0] 276)) w1 := ((Below.refl _ _).alloc (by simp) _).grown hg (by simp <;> omega) (by simp [Value.ownBlock] <;> omega)
  have O := Lib.hid (show OwBy w1 v'.ownBlock.toList v' x.xBody from ⟨row_mono ho.1 (Nat.zero_le _), rfl⟩)
  have Nn := Lib.hid (own_nw (lo := w.heap.size + 2) (fun k hk => ho.1.lt k hk))
  have Z := Lib.hid (show w.heap.size + 2 ≤ w1.heap.size by have := b1.size; simpa using this)
  have K := Lib.hid (K.out.below b1 (by omega))
  have R := Lib.hid (R.out.below b1 (by omega))
  have HB := Lib.hid (HB.out.trans (b1.mono (by omega)))
  obtain ⟨B, d, rfl⟩ := ho.rd.slice
  rw [Hnb.out] at *
  clear ho hk hg b1
  have k0 := K.out.at (i := 0) rfl
  have r0 := R.out.at (i := 0) rfl
  have y0 := K.out.frozen 0
  have z0 := R.out.frozen 0
  have k1 := K.out.at (i := 1) rfl
  have r1 := R.out.at (i := 1) rfl
  have y1 := K.out.frozen 1
  have z1 := R.out.frozen 1
  have k2 := K.out.at (i := 2) rfl
  have r2 := R.out.at (i := 2) rfl
  have y2 := K.out.frozen 2
  have z2 := R.out.frozen 2
  have k3 := K.out.at (i := 3) rfl
  have r3 := R.out.at (i := 3) rfl
  have y3 := K.out.frozen 3
  have z3 := R.out.frozen 3
  have k4 := K.out.at (i := 4) rfl
  have r4 := R.out.at (i := 4) rfl
  have y4 := K.out.frozen 4
  have z4 := R.out.frozen 4
  have k5 := K.out.at (i := 5) rfl
  have r5 := R.out.at (i := 5) rfl
  have y5 := K.out.frozen 5
  have z5 := R.out.frozen 5
  have k6 := K.out.at (i := 6) rfl
  have r6 := R.out.at (i := 6) rfl
  have y6 := K.out.frozen 6
  have z6 := R.out.frozen 6
  go_wp2
  refine bodyPost_ret (v := .agg #[.int .i64 x.xTsn, .int .i64 x.xStream, .int .i64 x.xSsn, .bool x.xFirst, .bool x.xLast, .bool x.xLoose, .slice B nb d]) (by simp [results, Try.results246, go_sem, k0, r0, k1, r1, k2, r2, k3, r3, k4, r4, k5, r5, k6, r6]) rfl ?_
  first | refine ⟨[.int .i64 x.xTsn, .int .i64 x.xStream, .int .i64 x.xSsn, .bool x.xFirst, .bool x.xLast, .bool x.xLoose, .slice B nb d], (Value.ownBlock (.slice B nb d)).toList, rfl, ⟨_, _, rfl, ?_, rfl⟩, ?_, ?_⟩ | refine ⟨[.int .i64 x.xTsn, .int .i64 x.xStream, .int .i64 x.xSsn, .bool x.xFirst, .bool x.xLast, .bool x.xLoose, .slice B nb d], rfl, (Value.ownBlock (.slice B nb d)).toList, ⟨_, _, rfl, ?_, rfl⟩, ?_, ?_⟩
  · have G0 := Lib.hid (show w.heap.size ∉ (Value.ownBlock (.slice B nb d)).toList from fun h => by have := (Nn.out.2 _ h).1; omega)
    have G1 := Lib.hid (show w.heap.size + 1 ∉ (Value.ownBlock (.slice B nb d)).toList from fun h => by have := (Nn.out.2 _ h).1; omega)
    repeat first | with_reducible exact O.out | with_reducible refine OwBy.set ?_ G0.out | with_reducible refine OwBy.set ?_ G1.out
  · exact Nn.out.mono (by omega) (by simp [size_set])
  · have hb := HB.out
    repeat first | with_reducible exact Below.refl _ _ | with_reducible assumption | with_reducible refine Below.setCell ?_ (by simp <;> omega) _ | with_reducible refine Below.alloc ?_ (by simp <;> omega) _ | with_reducible refine Below.drew ?_

set_option maxRecDepth 100000 in
set_option maxHeartbeats 1000000 in
theorem datPieceOwn_n (cs : List Value) (x : DDatPiece) (w : World) (h : FDatPiece w cs x) (hz : x.xBody.length ≤ 1048576) : Calls Try.prog 316 #[.agg cs.toArray] w fun e w' => ∃ cs' f, e = .returned (.agg cs'.toArray) ∧ EDatPiece w' f cs' x ∧ Nw w.heap.size w'.heap.size f ∧ Below w.heap.size w w' := by
  obtain ⟨v6, rfl, h6⟩ := h
  have Hv := Lib.hid h6
  obtain ⟨A6, c6, rfl⟩ := h6.slice
  have hcap := h6.cap
  clear h6
  generalize hnb : x.xBody.length = nb at *
  have Hnb := Lib.hid hnb
  clear hnb
  have K := Lib.hid ((Blk.new (w := w) (b := w.heap.size) #[.int .i64 x.xTsn, .int .i64 x.xStream, .int .i64 x.xSsn, .bool x.xFirst, .bool x.xLast, .bool x.xLoose, .slice A6 nb c6] 276 rfl).alloc (.cells #[.int .i64 0, .int .i64 0, .int .i64 0, .bool false, .bool false, .bool false, .slice none 0 0] 276))
  have R := Lib.hid (Blk.new (w := w.alloc (.cells #[.int .i64 x.xTsn, .int .i64 x.xStream, .int .i64 x.xSsn, .bool x.xFirst, .bool x.xLast, .bool x.xLoose, .slice A6 nb c6] 276)) (b := w.heap.size + 1) #[.int .i64 0, .int .i64 0, .int .i64 0, .bool false, .bool false, .bool false, .slice none 0 0] 276 (by simp))
  have HB := Lib.hid (((Below.refl w.heap.size w).alloc (Nat.le_refl _) (.cells #[.int .i64 x.xTsn, .int .i64 x.xStream, .int .i64 x.xSsn, .bool x.xFirst, .bool x.xLast, .bool x.xLoose, .slice A6 nb c6] 276)).alloc (by simp) (.cells #[.int .i64 0, .int .i64 0, .int .i64 0, .bool false, .bool false, .bool false, .slice none 0 0] 276))
  go_enter Try.func316, Try.ntmps316
  go_wp2_with fail
  refine (ascOwn_n _ x.xBody _ (Hv.out.below HB.out) (by rw [Hnb.out]; exact hz)).mono ?_
  rintro e w1 ⟨v', f, rfl, ho, hn1, b1⟩
  have b1' : Below (w.heap.size + 2) ((w.alloc (.cells #[.int .i64 x.xTsn, .int .i64 x.xStream, .int .i64 x.xSsn, .bool x.xFirst, .bool x.xLast, .bool x.xLoose, .slice A6 nb c6] 276)).alloc (.cells #[.int .i64 0, .int .i64 0, .int .i64 0, .bool false, .bool false, .bool false, .slice none 0 0] 276)) w1 := by simpa using b1
  have O := Lib.hid ho
  have Nn := Lib.hid (hn1.mono (lo' := w.heap.size + 2) (by simp) (Nat.le_refl _))
  have K := Lib.hid (K.out.below b1' (by omega))
  have R := Lib.hid (R.out.below b1' (by omega))
  have HB := Lib.hid (HB.out.trans (b1'.mono (by omega)))
  obtain ⟨B, d, rfl⟩ := ho.rd.slice
  rw [Hnb.out] at *
  clear ho hn1 b1 b1'
  have k0 := K.out.at (i := 0) rfl
  have r0 := R.out.at (i := 0) rfl
  have y0 := K.out.frozen 0
  have z0 := R.out.frozen 0
  have k1 := K.out.at (i := 1) rfl
  have r1 := R.out.at (i := 1) rfl
  have y1 := K.out.frozen 1
  have z1 := R.out.frozen 1
  have k2 := K.out.at (i := 2) rfl
  have r2 := R.out.at (i := 2) rfl
  have y2 := K.out.frozen 2
  have z2 := R.out.frozen 2
  have k3 := K.out.at (i := 3) rfl
  have r3 := R.out.at (i := 3) rfl
  have y3 := K.out.frozen 3
  have z3 := R.out.frozen 3
  have k4 := K.out.at (i := 4) rfl
  have r4 := R.out.at (i := 4) rfl
  have y4 := K.out.frozen 4
  have z4 := R.out.frozen 4
  have k5 := K.out.at (i := 5) rfl
  have r5 := R.out.at (i := 5) rfl
  have y5 := K.out.frozen 5
  have z5 := R.out.frozen 5
  have k6 := K.out.at (i := 6) rfl
  have r6 := R.out.at (i := 6) rfl
  have y6 := K.out.frozen 6
  have z6 := R.out.frozen 6
  go_wp2
  refine bodyPost_ret (v := .agg #[.int .i64 x.xTsn, .int .i64 x.xStream, .int .i64 x.xSsn, .bool x.xFirst, .bool x.xLast, .bool x.xLoose, .slice B nb d]) (by simp [results, Try.results316, go_sem, k0, r0, k1, r1, k2, r2, k3, r3, k4, r4, k5, r5, k6, r6]) rfl ?_
  first | refine ⟨[.int .i64 x.xTsn, .int .i64 x.xStream, .int .i64 x.xSsn, .bool x.xFirst, .bool x.xLast, .bool x.xLoose, .slice B nb d], f, rfl, ⟨_, _, rfl, ?_, rfl⟩, ?_, ?_⟩ | refine ⟨[.int .i64 x.xTsn, .int .i64 x.xStream, .int .i64 x.xSsn, .bool x.xFirst, .bool x.xLast, .bool x.xLoose, .slice B nb d], rfl, f, ⟨_, _, rfl, ?_, rfl⟩, ?_, ?_⟩
  · have G0 := Lib.hid (show w.heap.size ∉ f from fun h => by have := (Nn.out.2 _ h).1; omega)
    have G1 := Lib.hid (show w.heap.size + 1 ∉ f from fun h => by have := (Nn.out.2 _ h).1; omega)
    repeat first | with_reducible exact O.out | with_reducible refine OwBy.set ?_ G0.out | with_reducible refine OwBy.set ?_ G1.out
  · exact Nn.out.mono (by omega) (by simp [size_set])
  · have hb := HB.out
    repeat first | with_reducible exact Below.refl _ _ | with_reducible assumption | with_reducible refine Below.setCell ?_ (by simp <;> omega) _ | with_reducible refine Below.alloc ?_ (by simp <;> omega) _ | with_reducible refine Below.drew ?_

set_option maxRecDepth 100000 in
theorem elemDatPiece : Elem Try.prog 85 276 7 := by
  obtain ⟨i0, hi0, hz0, hz1, hz2⟩ := info_parts2 info_DatPiece infob_DatPiece
  exact ⟨i0, _, Try.underlying85, hi0, hz0, hz1, hz2, rfl, by decide⟩
set_option maxRecDepth 100000 in
set_option maxHeartbeats 2000000 in
theorem l8Pieces_n (v : Value) (xs : List DDatPiece) (w : World) (hv : RdDatPieceS w v xs) (hz : zL zDatPiece xs ≤ 1048576) : Calls Try.prog 308 #[v] w fun e w' => ∃ v' f, e = .returned v' ∧ OwDatPieceS w' f v' xs ∧ Nw w.heap.size w'.heap.size f ∧ Below w.heap.size w w' := by
  unfold OwDatPieceS
  have hn : xs.length ≤ 1048576 := by unfold zL at hz; omega
  have Hx := Lib.hid (show ∀ x ∈ xs, x.xBody.length ≤ 1048576 from fun x h => by have h1 := szL_mem (z := zDatPiece) h; have h2 : zDatPiece x = x.xBody.length := rfl; unfold zL at hz; omega)
  clear hz
  obtain ⟨A, c, rfl⟩ := RdS.slice hv
  have hcv := RdS.cap hv
  generalize hl : xs.length = n at *
  have Hl := Lib.hid hl
  have Hv := Lib.hid hv
  clear hl hv
  go_enter Try.func308, Try.ntmps308
  go_wp2
  go_loopw [3, 4] (fun q i w1 => ∃ (j : Nat) (bs : List Nat), j ≤ n ∧ i = .int .i64 j ∧ OwL 276 7 EDatPiece w1 bs q (xs.take j) ∧ Nw w.heap.size w1.heap.size bs ∧ Below w.heap.size w w1) (fun _ i _ => n - (intOf i).toNat)
  case atStart => exact ⟨0, [w.heap.size], by omega, rfl, OwL.lit0 w, ⟨by simp, by simp⟩, (Below.refl _ _).alloc (Nat.le_refl _) _⟩
  case round =>
    obtain ⟨j, bs, hj, rfl, ho, hnw, hb⟩ := hrel
    have Ho := Lib.hid ho
    have Hn := Lib.hid hnw
    have Hb := Lib.hid hb
    clear ho hnw hb
    by_cases hlt : j < n
    · obtain ⟨ad, cs, hk, rfl, hcl, hca, hE⟩ := RdS.at_ (Hv.out.below Hb.out) hlt
      have HE := Lib.hid hE
      obtain ⟨v6, rfl, h6⟩ := hE
      obtain ⟨A6, e6, rfl⟩ := h6.slice
      have c0 := hca.c0
      have c1 := hca.ci 0 rfl
      have c2 := hca.ci 1 rfl
      have c3 := hca.ci 2 rfl
      have c4 := hca.ci 3 rfl
      have c5 := hca.ci 4 rfl
      have c6 := hca.ci 5 rfl
      clear hca hcl h6
      go_wp2_with fail
      refine (l8Piece_n _ xs[j] _ HE.out (Hx.out _ (List.getElem_mem hk))).mono ?_
      rintro e w3 ⟨cs', f', rfl, hE', hn', hb3⟩
      clear c0 c1 c2 c3 c4 c5 c6
      have hlo := Nat.le_trans Hb.out.size (Nat.le_refl _)
      have Hf := Lib.hid (hn'.mono (lo' := w.heap.size) hlo (Nat.le_refl _))
      replace Ho := Lib.hid (Ho.out.below EDatPiece.framed EDatPiece.inside hb3)
      replace Hb := Lib.hid (Hb.out.trans (hb3.mono Hb.out.size))
      have Hd := Lib.hid (show ∀ b ∈ f', b ∉ bs from fun b h1 h2 => by have h3 := (Hn.out.2 b h2).2; have h4 := (hn'.2 b h1).1; first | omega | (simp at h3 h4; omega))
      replace Hn := Lib.hid (Hn.out.mono (Nat.le_refl _) hb3.size)
      obtain ⟨u6, g6, rfl, o6, rfl⟩ := id hE'
      obtain ⟨B, d, rfl⟩ := o6.rd.slice
      have b4 := (Below.refl w3.heap.size w3).alloc (Nat.le_refl _) (.cells #[.int .i64 xs[j].xTsn, .int .i64 xs[j].xStream, .int .i64 xs[j].xSsn, .bool xs[j].xFirst, .bool xs[j].xLast, .bool xs[j].xLoose, .slice B xs[j].xBody.length d] 276)
      have KN := Lib.hid (Blk.new (w := w3) (b := w3.heap.size) #[.int .i64 xs[j].xTsn, .int .i64 xs[j].xStream, .int .i64 xs[j].xSsn, .bool xs[j].xFirst, .bool xs[j].xLast, .bool xs[j].xLoose, .slice B xs[j].xBody.length d] 276 rfl)
      have HE' := Lib.hid (show EDatPiece (w3.alloc (.cells #[.int .i64 xs[j].xTsn, .int .i64 xs[j].xStream, .int .i64 xs[j].xSsn, .bool xs[j].xFirst, .bool xs[j].xLast, .bool xs[j].xLoose, .slice B xs[j].xBody.length d] 276)) _ _ _ from EDatPiece.framed _ _ _ _ _ hE' (fun b hb => b4.block b (EDatPiece.inside _ _ _ _ hE' b hb)))
      replace Ho := Lib.hid (Ho.out.below EDatPiece.framed EDatPiece.inside b4)
      replace Hn := Lib.hid (Hn.out.mono (Nat.le_refl _) b4.size)
      replace Hf := Lib.hid (Hf.out.mono (Nat.le_refl _) b4.size)
      have Hlo := Lib.hid (show w.heap.size ≤ (w3.alloc (.cells #[.int .i64 xs[j].xTsn, .int .i64 xs[j].xStream, .int .i64 xs[j].xSsn, .bool xs[j].xFirst, .bool xs[j].xLast, .bool xs[j].xLoose, .slice B xs[j].xBody.length d] 276)).heap.size from Nat.le_trans Hb.out.size b4.size)
      replace Hb := Lib.hid (Hb.out.trans (b4.mono Hb.out.size))
      have Hlen := Lib.hid (show (xs.take j).length + [xs[j]].length ≤ 1073741824 by simp; omega)
      clear hE' hn' hb3 o6 b4 hlo
      go_wp2_with (at_builtin; go_loud (refine wpList_push (lo := w.heap.size) (a := ⟨w3.heap.size, 0, none⟩) (c := 1) (ys := [xs[j]]) EDatPiece.framed EDatPiece.inside elemDatPiece _ rfl (.tmp 12) (.tmp 18) rfl rfl rfl Ho.out Hn.out Hlo.out (Els.one HE'.out rfl) (by simpa using Hf.out) (by simpa using Hd.out) (fun i u hu => by rw [add_zero_blk]; exact KN.out.at hu) (by simp [Value.oneCell']) Hlen.out ?_))
      intro v' w4 bs' h1 h2 h3 _
      try rw [← List.take_succ_eq_append_getElem hk] at h1
      have H1 := Lib.hid h1
      have H2 := Lib.hid h2
      have H3 := Lib.hid (Hb.out.grown h3 Hlo.out (fun k hk' => (Hn.out.2 k (Ho.out.own_mem k (by simp [hk']))).1))
      clear h1 h2 h3 KN
      go_wp2
      exact ⟨⟨j + 1, bs', by omega, by go_num, H1.out, H2.out, H3.out⟩, by simp [intOf]; omega⟩
    · have : j = n := by omega
      subst this
      have ho := Ho.out
      rw [List.take_of_length_le (by rw [Hl.out]; omega)] at ho
      go_wp2
      go_ret
      exact ⟨_, bs, rfl, ho, Hn.out, Hb.out⟩

end Go.Proofs.Ythdjjgbjemaabaa
