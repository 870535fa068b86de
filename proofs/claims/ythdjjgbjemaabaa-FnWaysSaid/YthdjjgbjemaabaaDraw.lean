/-
  The reader of a code (spec.l30Rd): what a pick leaves; tables that a draw reads.
-/
import Derived.Test.YthdjjgbjemaabaaOctGet
import Derived.Deep.RegionHeld3
namespace Go.Proofs.Ythdjjgbjemaabaa
open Go.ChangeShapes Go.WideShapes Go.ChangeAt Go.RowKit Go.Maps
set_option linter.unusedVariables false

/-- A reader of a code at block g, at place p. -/
def Rdr (w : World) (g : Nat) (xs : List UInt8) (p : Nat) : Prop := ∃ v, w.heap[g]? = some (.cells #[v, .int .i64 p] 246 (0, 0)) ∧ RdB w v xs ∧ xs.length ≤ 2000
theorem Rdr.c0 {w : World} {g : Nat} {xs : List UInt8} {p : Nat} (h : Rdr w g xs p) : ∃ A c, w.cell? ⟨g, 0, none⟩ = some (.slice A xs.length c) ∧ RdB w (.slice A xs.length c) xs := by
  obtain ⟨v, h1, h2, _⟩ := h
  obtain ⟨A, c, rfl⟩ := h2.slice
  exact ⟨A, c, by rw [cell_of_row w g 0 _ _ _ h1]; rfl, h2⟩
theorem Rdr.c1 {w : World} {g : Nat} {xs : List UInt8} {p : Nat} (h : Rdr w g xs p) : w.cell? ⟨g, 1, none⟩ = some (.int .i64 p) := by
  obtain ⟨v, h1, h2, _⟩ := h
  rw [cell_of_row w g 1 _ _ _ h1]; rfl
theorem Rdr.fz {w : World} {g : Nat} {xs : List UInt8} {p : Nat} (h : Rdr w g xs p) (j : Nat) : w.frozen? ⟨g, j, none⟩ = false := by
  obtain ⟨v, h1, h2, _⟩ := h
  simp [World.frozen?, h1]
theorem Rdr.len {w : World} {g : Nat} {xs : List UInt8} {p : Nat} (h : Rdr w g xs p) : xs.length ≤ 2000 := by obtain ⟨_, _, _, h⟩ := h; exact h
theorem Rdr.lt {w : World} {g : Nat} {xs : List UInt8} {p : Nat} (h : Rdr w g xs p) : g < w.heap.size := World.block_lt_of_cell? w _ h.c1
theorem Rdr.step {w : World} {g : Nat} {xs : List UInt8} {p q : Nat} (h : Rdr w g xs p) : Rdr (w.setCell ⟨g, 1, none⟩ (.int .i64 q)) g xs q := by
  obtain ⟨v, h1, h2, h3⟩ := h
  refine ⟨v, ?_, h2.setInt (by rw [cell_of_row w g 1 _ _ _ h1]; rfl) _, h3⟩
  rw [heap_setCell_same w g 1 _ _ _ h1]
  rfl
theorem Rdr.below {w w' : World} {g : Nat} {xs : List UInt8} {p : Nat} (h : Rdr w g xs p) (hb : Below w.heap.size w w') : Rdr w' g xs p := by
  have hlt := h.lt
  obtain ⟨v, h1, h2, h3⟩ := h
  exact ⟨v, by rw [hb.block g hlt]; exact h1, h2.below hb, h3⟩
theorem xor64 (x y : Nat) (hx : x < 9223372036854775808) (hy : y < 9223372036854775808) : ∃ z : Nat, bits .xor .i64 (x : Int) (y : Int) = (z : Int) ∧ z < 9223372036854775808 := by
  have h : x ^^^ y < 2 ^ 63 := Nat.xor_lt_two_pow (by omega) (by omega)
  have e : ∀ z : Nat, z < 9223372036854775808 → (BitVec.ofInt 64 (z : Int)).toNat = z := fun z hz => by
    rw [BitVec.ofInt_natCast, BitVec.toNat_ofNat]; exact Nat.mod_eq_of_lt (by omega)
  refine ⟨x ^^^ y, ?_, by omega⟩
  show IntKind.i64.wrap ((BitVec.ofInt 64 (x : Int) ^^^ BitVec.ofInt 64 (y : Int)).toNat : Int) = _
  rw [BitVec.toNat_xor, e x hx, e y hy, IntKind.wrap_i64]
  omega
theorem pick_math (y z p l n : Nat) (hy : y < 256) (hz : z < 256) (hp : p ≤ 1099511627776) (hn : 1 ≤ n) :
    ∃ x : Nat, x < n ∧ (bits BinOp.xor IntKind.i64 (wrap64 ((y : Int) * 131 + (z : Int) * 1117 + (p : Int) * 29 + wrap64 (wrap64 ((p : Int) / (l : Int)) * 53))) (wrap64 ((wrap64 ((y : Int) * 131 + (z : Int) * 1117 + (p : Int) * 29 + wrap64 (wrap64 ((p : Int) / (l : Int)) * 53))).tdiv 64))).tmod (n : Int) = (x : Int) := by
  have hq : (p : Int) / (l : Int) = ((p / l : Nat) : Int) := rfl
  have hq1 : p / l ≤ p := Nat.div_le_self _ _
  generalize p / l = q at *
  rw [hq, w64n q (by omega), w64_in (n := (q : Int) * 53) (by omega)]
  obtain ⟨X, hX, hX'⟩ : ∃ X : Nat, (y : Int) * 131 + (z : Int) * 1117 + (p : Int) * 29 + (q : Int) * 53 = (X : Int) ∧ X ≤ 1000000000000000 := ⟨y * 131 + z * 1117 + p * 29 + q * 53, by omega, by omega⟩
  rw [hX, w64n X (by omega)]
  have hd : wrap64 ((X : Int).tdiv 64) = ((X / 64 : Nat) : Int) := by rw [Int.tdiv_eq_ediv_of_nonneg (by omega)]; exact w64n (X / 64) (by omega)
  rw [hd]
  obtain ⟨Z, hZ, _⟩ := xor64 X (X / 64) (by omega) (by omega)
  rw [hZ, Int.tmod_eq_emod_of_nonneg (by omega)]
  exact ⟨Z % n, Nat.mod_lt _ (by omega), rfl⟩
/-- One more number was read: where the reader is, and what else has turned. -/
def Picked (w : World) (g p n : Nat) (e : Ending) (w' : World) : Prop :=
  ∃ x : Nat, x < n ∧ e = .returned (.int .i64 x) ∧ ∃ d, w' = (w.setCell ⟨g, 1, none⟩ (.int .i64 ((p + 1 : Nat) : Int))).drewN d
set_option maxHeartbeats 400000 in
theorem pick_any (g p n : Nat) (xs : List UInt8) (w : World) (hr : Rdr w g xs p) (hp : p ≤ 1099511627776) (hn : 1 ≤ n ∧ n ≤ 4294967296) :
    Calls Try.prog 96 #[.pointer (some ⟨g, 0, none⟩), .int .i64 n] w (Picked w g p n) := by
  obtain ⟨A, c, c0, hv⟩ := hr.c0
  have c1 := hr.c1
  have f1 := hr.fz 1
  have hl := hr.len
  generalize hx : xs.length = l at *
  have Hx := Lib.hid hx
  clear hx
  by_cases h0 : l = 0
  · subst h0
    clear hv hr
    go_enter Try.func96, Try.ntmps96
    go_wp2
    go_ret
    exact ⟨0, by omega, rfl, 0, rfl⟩
  · by_cases hlt : p < l
    · obtain ⟨ad, hk, rfl, hc⟩ := hv.at_ hlt
      have hne : ¬ ad.add p = ⟨g, 1, none⟩ := fun e => by rw [e, c1] at hc; simp at hc
      have hne' : ¬ (⟨g, 1, none⟩ : Addr) = ad.add p := fun e => hne e.symm
      have hb := byte_lt xs[p]
      generalize xs[p].toNat = y at *
      clear hv hr
      have hb0 : ((l : Int) == 0) = false := by rw [beq_eq_false_iff_ne]; omega
      have hcc : ∀ u, (w.setCell ⟨g, 1, none⟩ u).cell? (ad.add p) = some (.int .u8 (y : Int)) := fun u => (World.cell?_setCell_other _ _ _ _ hne').trans hc
      go_enter Try.func96, Try.ntmps96
      go_wp2
      go_ret
      exact ⟨y % n, Nat.mod_lt _ (by omega), rfl, 0, rfl⟩
    · have k1 : p % l < l := Nat.mod_lt _ (by omega)
      have k2 : (p * 7 + 3) % l < l := Nat.mod_lt _ (by omega)
      have k3 : p / l ≤ p := Nat.div_le_self _ _
      obtain ⟨ad, hk, rfl, hc⟩ := hv.at_ k1
      obtain ⟨_, hk', hA, hc'⟩ := hv.at_ k2
      injection hA with hA
      subst hA
      have hne : ¬ (⟨g, 1, none⟩ : Addr) = ad.add (p % l) := fun e => by rw [← e, c1] at hc; simp at hc
      have hne' : ¬ (⟨g, 1, none⟩ : Addr) = ad.add ((p * 7 + 3) % l) := fun e => by rw [← e, c1] at hc'; simp at hc'
      have hb := byte_lt xs[p % l]
      have hb' := byte_lt xs[(p * 7 + 3) % l]
      generalize xs[p % l].toNat = y at *
      generalize xs[(p * 7 + 3) % l].toNat = z at *
      have hb0 : ((l : Int) == 0) = false := by rw [beq_eq_false_iff_ne]; omega
      have hcc : ∀ u, (w.setCell ⟨g, 1, none⟩ u).cell? (ad.add (p % l)) = some (.int .u8 (y : Int)) := fun u => (World.cell?_setCell_other _ _ _ _ hne).trans hc
      have hcc' : ∀ u, (w.setCell ⟨g, 1, none⟩ u).cell? (ad.add ((p * 7 + 3) % l)) = some (.int .u8 (z : Int)) := fun u => (World.cell?_setCell_other _ _ _ _ hne').trans hc'
      clear hv hr hk hk' hc hc' hne hne'
      have q1 : ((p : Int)).tmod (l : Int) = ((p % l : Nat) : Int) := by rw [Int.tmod_eq_emod_of_nonneg (by omega)]; rfl
      have q2 : IntKind.i64.wrap ((p : Int) * 7) = (p : Int) * 7 := IntWalk.i64_in _ (by omega)
      have q3 : IntKind.i64.wrap ((p : Int) * 7 + 3) = (p : Int) * 7 + 3 := IntWalk.i64_in _ (by omega)
      have q4 : ((p : Int) * 7 + 3).tmod (l : Int) = (((p * 7 + 3) % l : Nat) : Int) := by rw [Int.tmod_eq_emod_of_nonneg (by omega)]; rfl
      generalize hK1 : p % l = K1 at *
      generalize hK2 : (p * 7 + 3) % l = K2 at *
      have HK1 := Lib.hid hK1
      have HK2 := Lib.hid hK2
      clear hK1 hK2
      go_enter Try.func96, Try.ntmps96
      go_wp2
      go_quiet (fail)
      go_wp2
      go_ret
      obtain ⟨x, hx1, hx2⟩ := pick_math y z p l n hb hb' hp hn.1
      exact ⟨x, hx1, retI hx2, _, rfl⟩
/-- What a drawing of one number leaves: the number keeps P, the reader has gone on by at most c, only the reader's block has turned. -/
def Drew (P : Int → Prop) (w : World) (g : Nat) (xs : List UInt8) (p c : Nat) (e : Ending) (w' : World) : Prop :=
  ∃ (x : Int) (q : Nat), P x ∧ e = .returned (.int .i64 x) ∧ q ≤ p + c ∧ Rdr w' g xs q ∧ Fr g (g + 1) w w'
theorem Fr.setCell {w : World} {lo hi : Nat} (p : Addr) (u : Value) (h : lo ≤ p.block ∧ p.block < hi) : Fr lo hi w (w.setCell p u) :=
  ⟨rfl, rfl, rfl, by simp [World.setCell], fun k _ ho => Below.heap_setCell _ _ _ _ (by omega)⟩
theorem Rdr.drewN {w : World} {g : Nat} {xs : List UInt8} {p : Nat} (h : Rdr w g xs p) (n : Nat) : Rdr (w.drewN n) g xs p := h
theorem pick_int (g p : Nat) (n : Int) (xs : List UInt8) (w : World) (hr : Rdr w g xs p) (hp : p ≤ 1099511627776) (hn : 1 ≤ n ∧ n ≤ 4294967296) :
    Calls Try.prog 96 #[.pointer (some ⟨g, 0, none⟩), .int .i64 n] w (Drew (fun x => 0 ≤ x ∧ x < n) w g xs p 1) := by
  have h := pick_any g p n.toNat xs w hr hp (by omega)
  rw [Int.toNat_of_nonneg (by omega)] at h
  refine h.mono ?_
  rintro e w' ⟨x, hx, he, d, hw⟩
  subst hw
  exact ⟨x, p + 1, by omega, he, by omega, hr.step.drewN d, (Fr.setCell _ _ (by simp)).drewN d⟩
theorem Fr.alloc {lo hi : Nat} {a b : World} (h : Fr lo hi a b) (o : Obj) : Fr lo hi a (b.alloc o) := by
  have := h.size
  exact ⟨h.os, h.tape, h.output, by simp; omega, fun i hi' ho => (Below.heap_alloc b o i (by omega)).trans (h.block i hi' ho)⟩
theorem Rdr.alloc {w : World} {g : Nat} {xs : List UInt8} {p : Nat} (h : Rdr w g xs p) (o : Obj) : Rdr (w.alloc o) g xs p := h.below ((Below.refl _ _).alloc (Nat.le_refl _) _)
/-- Is it an int? -/
def isInt (x : Int) : Prop := -9223372036854775808 ≤ x ∧ x ≤ 9223372036854775807
/-- What a table has at a place. -/
def tv (zs : List Int) (k : Nat) : Int := zs.getD k 0
/-- A table of ints that the call has laid, read at a place. -/
theorem tab_at {w0 w : World} {lo hi : Nat} (zs : List Int) (cs : Array Value) (hcs : cs = (zs.map (Value.int .i64)).toArray) (hf : Fr lo hi (w0.alloc (.cells cs 3)) w) (hh : w0.heap.size < lo ∨ hi ≤ w0.heap.size) {k : Nat} (hk : k < zs.length) :
    w.cell? ⟨w0.heap.size, k, none⟩ = some (.int .i64 (tv zs k)) := by
  subst hcs
  rw [World.cell?_of_block (hf.block w0.heap.size (by simp) (by omega)), cell_of_row _ _ _ _ _ _ (heap_alloc_new w0 _)]
  simp [hk, tv]
theorem getD_mem {P : Int → Prop} {zs : List Int} {k : Nat} (hk : k < zs.length) (h : ∀ z ∈ zs, P z) : P (tv zs k) := by
  rw [tv, List.getD_eq_getElem?_getD, List.getElem?_eq_getElem hk]
  exact h _ (List.getElem_mem hk)
/-- Is it one of 32 bits? -/
def isLong (x : Int) : Prop := 0 ≤ x ∧ x ≤ 4294967295
set_option maxHeartbeats 400000 in
theorem l30Long_any (g p : Nat) (xs : List UInt8) (w : World) (hr : Rdr w g xs p) (hp : p + 1 ≤ 1099511627776) :
    Calls Try.prog 319 #[.pointer (some ⟨g, 0, none⟩)] w (Drew isLong w g xs p 2) := by
  have hlt := hr.lt
  go_enter Try.func319, Try.ntmps319
  go_wp2_with fail
  refine (pick_int g p 256 xs _ hr (by omega) (by omega)).mono ?_
  rintro e w1 ⟨y, q1, hy, rfl, hq1, hr1, hf1⟩
  have hlt1 := hr1.lt
  have Hf1 := Lib.hid hf1
  clear hf1
  go_wp2_with fail
  refine (pick_int g q1 9 xs _ (hr1.alloc _) (by omega) (by omega)).mono ?_
  rintro e w' ⟨x, q, hx, rfl, hq, hr', hf⟩
  obtain ⟨k, rfl⟩ := Int.eq_ofNat_of_zero_le hx.1
  have hk : k < 9 := by omega
  have hc := tab_at [0, 1, 2, 4294967295, 4294967294, 4294967290, 2147483648, 2147483647, y * 16777216] _ rfl hf (.inr (by omega)) hk
  have Hf := Lib.hid (Hf1.out.alloc _ |>.trans hf)
  have Hp := Lib.hid (getD_mem (P := isLong) (zs := [0, 1, 2, 4294967295, 4294967294, 4294967290, 2147483648, 2147483647, y * 16777216]) hk (by simp [isLong]; omega))
  clear hf hr hr1 Hf1
  generalize tv [0, 1, 2, 4294967295, 4294967294, 4294967290, 2147483648, 2147483647, y * 16777216] k = z at *
  go_wp2
  go_ret
  exact ⟨_, q, Hp.out, rfl, by omega, hr', Hf.out⟩
theorem RdB.alloc {w : World} {v : Value} {xs : List UInt8} (h : RdB w v xs) (o : Obj) : RdB (w.alloc o) v xs := h.below ((Below.refl _ _).alloc (Nat.le_refl _) _)
theorem RdB.cut0 {w : World} {A : Option Addr} {n c k : Nat} {xs : List UInt8} (h : RdB w (.slice A n c) xs) (hk : k ≤ n) : RdB w (.slice A k c) (xs.take k) := by
  have h1 := h.cutAt (a := 0) (k := k) (by omega)
  have e : A.map (fun x => x.add 0) = A := by cases A <;> simp [Addr.add]
  rw [e] at h1
  simpa using h1
set_option maxHeartbeats 400000 in
theorem l30Open_any (v : Value) (xs : List UInt8) (w : World) (hv : RdB w v xs) :
    Calls Try.prog 94 #[v] w fun e w' => e = .returned (.pointer (some ⟨w.heap.size, 0, none⟩)) ∧ Rdr w' w.heap.size (xs.take 2000) 0 ∧ Below w.heap.size w w' ∧ w'.heap.size = w.heap.size + 1 := by
  obtain ⟨A, c, rfl⟩ := hv.slice
  have hcap := hv.cap
  generalize hx : xs.length = n at *
  have Hx := Lib.hid hx
  clear hx
  by_cases h : 2000 < n
  · have H2 := Lib.hid (hv.cut0 (k := 2000) (by omega))
    have Hv := Lib.hid hv
    clear hv
    go_enter Try.func94, Try.ntmps94
    go_wp2
    go_ret
    exact ⟨rfl, ⟨_, heap_alloc_new w _, H2.out.alloc _, by simp; omega⟩, (Below.refl _ _).alloc (Nat.le_refl _) _, by simp⟩
  · have Hv := Lib.hid hv
    clear hv
    go_enter Try.func94, Try.ntmps94
    go_wp2
    go_ret
    refine ⟨rfl, ⟨_, heap_alloc_new w _, ?_, by simp; omega⟩, (Below.refl _ _).alloc (Nat.le_refl _) _, by simp⟩
    rw [List.take_of_length_le (by rw [Hx.out]; omega)]
    exact Hv.out.alloc _
theorem Fr.undrew {lo hi : Nat} {a b : World} (h : Fr lo hi a.drew b) : Fr lo hi a b := ⟨h.os, h.tape, h.output, h.size, h.block⟩
theorem tab_new (zs : List Int) (cs : Array Value) (hcs : cs = (zs.map (Value.int .i64)).toArray) {k : Nat} (hk : k < zs.length) (W : World) :
    (W.alloc (.cells cs 3)).cell? ⟨W.heap.size, k, none⟩ = some (.int .i64 (tv zs k)) := by
  subst hcs
  rw [cell_of_row _ _ _ _ _ _ (heap_alloc_new W _)]
  simp [hk, tv]
theorem tab_elem (zs : List Int) {k : Nat} (hk : k < (zs.map (Value.int .i64)).length) : (zs.map (Value.int .i64))[k] = .int .i64 (tv zs k) := by
  have : k < zs.length := by simpa using hk
  simp [tv, this]

end Go.Proofs.Ythdjjgbjemaabaa
