/-
  The contracts of OctGet, of the program and of the model, and of the cursor that it reads with.
-/
import Derived.Test.YthdjjgbjemaabaaOctPut
namespace Go.Proofs.Ythdjjgbjemaabaa
open Go.ChangeShapes Go.WideShapes Go.ChangeAt Go.RowKit Go.Maps
set_option linter.unusedVariables false

/-- The cursor at block g: what it reads, and its place. -/
structure Cur (w : World) (g : Nat) (v : Value) (at' : Nat) : Prop where
  c0 : w.cell? ⟨g, 0, none⟩ = some v
  c1 : w.cell? ⟨g, 1, none⟩ = some (.int .i64 at')
  fz : ∀ j, w.frozen? ⟨g, j, none⟩ = false
set_option maxHeartbeats 400000 in
theorem take_no (g a k : Nat) (v : Value) (xs : List UInt8) (w : World) (hc : Cur w g v a) (hv : RdB w v xs) (hn : xs.length ≤ 4294967296) (ha : a ≤ 9223372036854775807) (hk : k ≤ 4294967296) (hno : xs.length < a + k) :
    Calls Try.prog 342 #[.pointer (some ⟨g, 0, none⟩), .int .i64 k] w fun e w' => e = .returned (.tuple #[.slice none 0 0, .iface 347 (.agg #[.int .i64 3])]) ∧ ∃ d, w' = w.drewN d := by
  obtain ⟨A, c, rfl⟩ := hv.slice
  generalize xs.length = n at *
  have c0 := hc.c0
  have c1 := hc.c1
  clear hv hc
  go_enter Try.func342, Try.ntmps342
  go_wp2
  go_quiet (fail)
  go_wp2
  go_ret2
  exact ⟨rfl, _, rfl⟩
set_option maxHeartbeats 400000 in
theorem take_yes (g a k : Nat) (v : Value) (xs : List UInt8) (w : World) (hc : Cur w g v a) (hv : RdB w v xs) (hn : xs.length ≤ 4294967296) (hyes : a + k ≤ xs.length) :
    Calls Try.prog 342 #[.pointer (some ⟨g, 0, none⟩), .int .i64 k] w fun e w' => ∃ u, e = .returned (.tuple #[u, .nilIface]) ∧ RdB w u ((xs.drop a).take k) ∧ ∃ d, w' = (w.setCell ⟨g, 1, none⟩ (.int .i64 ((a + k : Nat) : Int))).drewN d := by
  obtain ⟨A, c, rfl⟩ := hv.slice
  generalize hl : xs.length = n at *
  have hcap := hv.cap
  have Hl := Lib.hid hl
  have H1 := Lib.hid (hv.cutAt hyes)
  have H2 := Lib.hid (hv.cutEnd hyes)
  have c0 := hc.c0
  have c1 := hc.c1
  have f1 := hc.fz 1
  clear hl hv hc
  go_enter Try.func342, Try.ntmps342
  go_wp2
  go_quiet (fail)
  go_wp2
  go_quiet (fail)
  go_wp2
  · go_ret2
    exact ⟨_, rfl, H2.out ‹_›, _, rfl⟩
  · go_ret2
    exact ⟨_, rfl, H1.out, _, rfl⟩
/-- The number that bytes write, the greatest first. -/
def val (l : List UInt8) : Nat := l.foldl (fun n b => 256 * n + b.toNat) 0
theorem retT {k : IntKind} {a b : Int} {u : Value} (h : a = b) : Ending.returned (.tuple #[.int k a, u]) = .returned (.tuple #[.int k b, u]) := by rw [h]
theorem byte_lt (y : UInt8) : y.toNat < 256 := y.toNat_lt
theorem or64 (x y : Nat) (hx : x < 9223372036854775808) (hy : y < 9223372036854775808) : bits .or .i64 (x : Int) (y : Int) = ((x ||| y : Nat) : Int) := by
  have h : x ||| y < 2 ^ 63 := Nat.or_lt_two_pow (by omega) (by omega)
  have e : ∀ z : Nat, z < 9223372036854775808 → (BitVec.ofInt 64 (z : Int)).toNat = z := fun z hz => by
    rw [BitVec.ofInt_natCast, BitVec.toNat_ofNat]; exact Nat.mod_eq_of_lt (by omega)
  show IntKind.i64.wrap ((BitVec.ofInt 64 (x : Int) ||| BitVec.ofInt 64 (y : Int)).toNat : Int) = _
  rw [BitVec.toNat_or, e x hx, e y hy, IntKind.wrap_i64]
  omega
/-- An or of what is shifted by 8 and a byte is a sum. -/
theorem or_byte (x y : Nat) (hx : x < 4294967296) (hy : y < 256) : bits .or .i64 ((x * 256 : Nat) : Int) (y : Int) = ((256 * x + y : Nat) : Int) := by
  rw [or64 _ _ (by omega) (by omega), Nat.mul_comm, ← Nat.two_pow_add_eq_or_of_lt (i := 8) (by omega) x]
theorem w64n (n : Nat) (h : n ≤ 9223372036854775807) : wrap64 (n : Int) = (n : Int) := w64_in (by omega)
theorem or_sum (x y i : Nat) (hy : y < 2 ^ i) : x * 2 ^ i ||| y = x * 2 ^ i + y := by
  rw [Nat.mul_comm, ← Nat.two_pow_add_eq_or_of_lt hy x]
theorem four_math (a b c d : Nat) (ha : a < 256) (hb : b < 256) (hc : c < 256) (hd : d < 256) :
    bits .or .i64 (bits .or .i64 (bits .or .i64 (wrap64 (wrap64 (a : Int) * 16777216)) (wrap64 (wrap64 (b : Int) * 65536))) (wrap64 (wrap64 (c : Int) * 256))) (wrap64 (d : Int)) = ((256 * (256 * (256 * a + b) + c) + d : Nat) : Int) := by
  have e1 : wrap64 (wrap64 (a : Int) * 16777216) = ((a * 2 ^ 24 : Nat) : Int) := by rw [w64n _ (by omega), w64_in (by omega)]; omega
  have e2 : wrap64 (wrap64 (b : Int) * 65536) = ((b * 2 ^ 16 : Nat) : Int) := by rw [w64n _ (by omega), w64_in (by omega)]; omega
  have e3 : wrap64 (wrap64 (c : Int) * 256) = ((c * 2 ^ 8 : Nat) : Int) := by rw [w64n _ (by omega), w64_in (by omega)]; omega
  rw [e1, e2, e3, w64n d (by omega)]
  have g1 : a * 2 ^ 24 ||| b * 2 ^ 16 = (256 * a + b) * 2 ^ 16 := by rw [or_sum _ _ _ (by omega)]; omega
  have g2 : (256 * a + b) * 2 ^ 16 ||| c * 2 ^ 8 = (256 * (256 * a + b) + c) * 2 ^ 8 := by rw [or_sum _ _ _ (by omega)]; omega
  have g3 : (256 * (256 * a + b) + c) * 2 ^ 8 ||| d = 256 * (256 * (256 * a + b) + c) + d := by rw [or_sum _ _ _ (by omega)]; omega
  rw [or64 _ _ (by omega) (by omega), g1, or64 _ _ (by omega) (by omega), g2, or64 _ _ (by omega) (by omega), g3]
theorem list1 {ys : List UInt8} (h : ys.length = 1) : ∃ y0, ys = [y0] := by
  match ys, h with
  | [y0], _ => exact ⟨y0, rfl⟩
/-- Bytes of a slice, each at its cell. -/
theorem RdB.rd1 {w : World} {v : Value} {y0 : UInt8} (h : RdB w v [y0]) : ∃ b o sp c, v = .slice (some ⟨b, o, sp⟩) 1 c ∧ w.cell? ⟨b, o, sp⟩ = some (.int .u8 y0.toNat) := by
  obtain ⟨A, c, rfl, _, hc⟩ := h
  obtain ⟨ad, rfl, h0⟩ := hc 0 y0 rfl
  exact ⟨ad.block, ad.off, ad.spot, c, rfl, h0⟩
theorem list2 {ys : List UInt8} (h : ys.length = 2) : ∃ y0 y1, ys = [y0, y1] := by
  match ys, h with
  | [y0, y1], _ => exact ⟨y0, y1, rfl⟩
/-- Bytes of a slice, each at its cell. -/
theorem RdB.rd2 {w : World} {v : Value} {y0 y1 : UInt8} (h : RdB w v [y0, y1]) : ∃ b o sp c, v = .slice (some ⟨b, o, sp⟩) 2 c ∧ w.cell? ⟨b, o, sp⟩ = some (.int .u8 y0.toNat) ∧ w.cell? ⟨b, o + 1, none⟩ = some (.int .u8 y1.toNat) := by
  obtain ⟨A, c, rfl, _, hc⟩ := h
  obtain ⟨ad, rfl, h0⟩ := hc 0 y0 rfl
  obtain ⟨_, hA, h1⟩ := hc 1 y1 rfl
  injection hA with hA
  subst hA
  exact ⟨ad.block, ad.off, ad.spot, c, rfl, h0, h1⟩
theorem list4 {ys : List UInt8} (h : ys.length = 4) : ∃ y0 y1 y2 y3, ys = [y0, y1, y2, y3] := by
  match ys, h with
  | [y0, y1, y2, y3], _ => exact ⟨y0, y1, y2, y3, rfl⟩
/-- Bytes of a slice, each at its cell. -/
theorem RdB.rd4 {w : World} {v : Value} {y0 y1 y2 y3 : UInt8} (h : RdB w v [y0, y1, y2, y3]) : ∃ b o sp c, v = .slice (some ⟨b, o, sp⟩) 4 c ∧ w.cell? ⟨b, o, sp⟩ = some (.int .u8 y0.toNat) ∧ w.cell? ⟨b, o + 1, none⟩ = some (.int .u8 y1.toNat) ∧ w.cell? ⟨b, o + 2, none⟩ = some (.int .u8 y2.toNat) ∧ w.cell? ⟨b, o + 3, none⟩ = some (.int .u8 y3.toNat) := by
  obtain ⟨A, c, rfl, _, hc⟩ := h
  obtain ⟨ad, rfl, h0⟩ := hc 0 y0 rfl
  obtain ⟨_, hA, h1⟩ := hc 1 y1 rfl
  injection hA with hA
  subst hA
  obtain ⟨_, hA, h2⟩ := hc 2 y2 rfl
  injection hA with hA
  subst hA
  obtain ⟨_, hA, h3⟩ := hc 3 y3 rfl
  injection hA with hA
  subst hA
  exact ⟨ad.block, ad.off, ad.spot, c, rfl, h0, h1, h2, h3⟩
set_option maxHeartbeats 400000 in
theorem one_no (g a : Nat) (v : Value) (xs : List UInt8) (w : World) (hc : Cur w g v a) (hv : RdB w v xs) (hn : xs.length ≤ 4294967296) (ha : a ≤ 9223372036854775807) (hno : xs.length < a + 1) :
    Calls Try.prog 338 #[.pointer (some ⟨g, 0, none⟩)] w fun e w' => e = .returned (.tuple #[.int .i64 0, .iface 347 (.agg #[.int .i64 3])]) ∧ ∃ d, w' = w.drewN d := by
  go_enter Try.func338, Try.ntmps338
  go_wp2_with fail
  refine (take_no g a 1 v xs _ hc hv hn ha (by omega) hno).mono ?_
  rintro e w' ⟨rfl, d, rfl⟩
  go_wp2
  go_ret2
  exact ⟨rfl, _, rfl⟩
set_option maxHeartbeats 400000 in
theorem two_no (g a : Nat) (v : Value) (xs : List UInt8) (w : World) (hc : Cur w g v a) (hv : RdB w v xs) (hn : xs.length ≤ 4294967296) (ha : a ≤ 9223372036854775807) (hno : xs.length < a + 2) :
    Calls Try.prog 339 #[.pointer (some ⟨g, 0, none⟩)] w fun e w' => e = .returned (.tuple #[.int .i64 0, .iface 347 (.agg #[.int .i64 3])]) ∧ ∃ d, w' = w.drewN d := by
  go_enter Try.func339, Try.ntmps339
  go_wp2_with fail
  refine (take_no g a 2 v xs _ hc hv hn ha (by omega) hno).mono ?_
  rintro e w' ⟨rfl, d, rfl⟩
  go_wp2
  go_ret2
  exact ⟨rfl, _, rfl⟩
set_option maxHeartbeats 400000 in
theorem four_no (g a : Nat) (v : Value) (xs : List UInt8) (w : World) (hc : Cur w g v a) (hv : RdB w v xs) (hn : xs.length ≤ 4294967296) (ha : a ≤ 9223372036854775807) (hno : xs.length < a + 4) :
    Calls Try.prog 340 #[.pointer (some ⟨g, 0, none⟩)] w fun e w' => e = .returned (.tuple #[.int .i64 0, .iface 347 (.agg #[.int .i64 3])]) ∧ ∃ d, w' = w.drewN d := by
  go_enter Try.func340, Try.ntmps340
  go_wp2_with fail
  refine (take_no g a 4 v xs _ hc hv hn ha (by omega) hno).mono ?_
  rintro e w' ⟨rfl, d, rfl⟩
  go_wp2
  go_ret2
  exact ⟨rfl, _, rfl⟩
set_option maxHeartbeats 400000 in
theorem one_yes (g a : Nat) (v : Value) (xs : List UInt8) (w : World) (hc : Cur w g v a) (hv : RdB w v xs) (hn : xs.length ≤ 4294967296) (hyes : a + 1 ≤ xs.length) :
    Calls Try.prog 338 #[.pointer (some ⟨g, 0, none⟩)] w fun e w' => e = .returned (.tuple #[.int .i64 (val ((xs.drop a).take 1)), .nilIface]) ∧ ∃ d, w' = (w.setCell ⟨g, 1, none⟩ (.int .i64 ((a + 1 : Nat) : Int))).drewN d := by
  have c1 := hc.c1
  go_enter Try.func338, Try.ntmps338
  go_wp2_with fail
  refine (take_yes g a 1 v xs _ hc hv hn hyes).mono ?_
  rintro e w' ⟨u, rfl, hu, d, hw⟩
  have hu2 : RdB w' u ((xs.drop a).take 1) := by rw [hw]; exact (hu.setInt (p := ⟨g, 1, none⟩) c1 _).drewN d
  have Hw := Lib.hid hw
  clear hw hu hc hv c1
  have hl : ((xs.drop a).take 1).length = 1 := by simp; omega
  generalize hy : (xs.drop a).take 1 = ys at *
  have Hy := Lib.hid hy
  clear hy
  obtain ⟨y0, rfl⟩ := list1 hl
  obtain ⟨b, o, sp, c, rfl, e0⟩ := hu2.rd1
  clear hl hu2
  go_wp2
  go_ret2
  refine ⟨?_, _, Hw.out⟩
  rw [Hy.out]
  have h0 := byte_lt y0
  refine retT ?_
  rw [w64n _ (by omega)]
  simp [val]
set_option maxHeartbeats 400000 in
theorem two_yes (g a : Nat) (v : Value) (xs : List UInt8) (w : World) (hc : Cur w g v a) (hv : RdB w v xs) (hn : xs.length ≤ 4294967296) (hyes : a + 2 ≤ xs.length) :
    Calls Try.prog 339 #[.pointer (some ⟨g, 0, none⟩)] w fun e w' => e = .returned (.tuple #[.int .i64 (val ((xs.drop a).take 2)), .nilIface]) ∧ ∃ d, w' = (w.setCell ⟨g, 1, none⟩ (.int .i64 ((a + 2 : Nat) : Int))).drewN d := by
  have c1 := hc.c1
  go_enter Try.func339, Try.ntmps339
  go_wp2_with fail
  refine (take_yes g a 2 v xs _ hc hv hn hyes).mono ?_
  rintro e w' ⟨u, rfl, hu, d, hw⟩
  have hu2 : RdB w' u ((xs.drop a).take 2) := by rw [hw]; exact (hu.setInt (p := ⟨g, 1, none⟩) c1 _).drewN d
  have Hw := Lib.hid hw
  clear hw hu hc hv c1
  have hl : ((xs.drop a).take 2).length = 2 := by simp; omega
  generalize hy : (xs.drop a).take 2 = ys at *
  have Hy := Lib.hid hy
  clear hy
  obtain ⟨y0, y1, rfl⟩ := list2 hl
  obtain ⟨b, o, sp, c, rfl, e0, e1⟩ := hu2.rd2
  clear hl hu2
  go_wp2
  go_quiet (fail)
  go_wp2
  go_ret2
  refine ⟨?_, _, by rw [Hw.out, World.drewN_drewN]⟩
  rw [Hy.out]
  have h0 := byte_lt y0
  have h1 := byte_lt y1
  refine retT ?_
  rw [w64n _ (by omega), w64n _ (by omega), show ((y0.toNat : Nat) : Int) * 256 = ((y0.toNat * 256 : Nat) : Int) by omega, w64n _ (by omega), or_byte _ _ (by omega) h1]
  simp [val]
set_option maxHeartbeats 400000 in
theorem four_yes (g a : Nat) (v : Value) (xs : List UInt8) (w : World) (hc : Cur w g v a) (hv : RdB w v xs) (hn : xs.length ≤ 4294967296) (hyes : a + 4 ≤ xs.length) :
    Calls Try.prog 340 #[.pointer (some ⟨g, 0, none⟩)] w fun e w' => e = .returned (.tuple #[.int .i64 (val ((xs.drop a).take 4)), .nilIface]) ∧ ∃ d, w' = (w.setCell ⟨g, 1, none⟩ (.int .i64 ((a + 4 : Nat) : Int))).drewN d := by
  have c1 := hc.c1
  go_enter Try.func340, Try.ntmps340
  go_wp2_with fail
  refine (take_yes g a 4 v xs _ hc hv hn hyes).mono ?_
  rintro e w' ⟨u, rfl, hu, d, hw⟩
  have hu2 : RdB w' u ((xs.drop a).take 4) := by rw [hw]; exact (hu.setInt (p := ⟨g, 1, none⟩) c1 _).drewN d
  have Hw := Lib.hid hw
  clear hw hu hc hv c1
  have hl : ((xs.drop a).take 4).length = 4 := by simp; omega
  generalize hy : (xs.drop a).take 4 = ys at *
  have Hy := Lib.hid hy
  clear hy
  obtain ⟨y0, y1, y2, y3, rfl⟩ := list4 hl
  obtain ⟨b, o, sp, c, rfl, e0, e1, e2, e3⟩ := hu2.rd4
  clear hl hu2
  go_wp2
  go_quiet (fail)
  go_wp2
  go_ret2
  refine ⟨?_, _, by rw [Hw.out, World.drewN_drewN]⟩
  rw [Hy.out]
  have h0 := byte_lt y0
  have h1 := byte_lt y1
  have h2 := byte_lt y2
  have h3 := byte_lt y3
  refine retT ?_
  rw [four_math _ _ _ _ h0 h1 h2 h3]
  simp [val]
/-- Can a number of so many bytes be read there? -/
def getB (n : Nat) (a s : Int) : Bool := decide (topL2 s ≠ 0) && decide (0 ≤ a) && decide (a + s ≤ n)
theorem getB_iff {n : Nat} {a s : Int} : getB n a s = true ↔ topL2 s ≠ 0 ∧ 0 ≤ a ∧ a + s ≤ n := by simp [getB, and_assoc]
def getN (xs : List UInt8) (a s : Int) : Int := if getB xs.length a s = true then (val ((xs.drop a.toNat).take s.toNat) : Int) else 0
theorem getN_yes {xs : List UInt8} {a s : Int} (h : getB xs.length a s = true) : getN xs a s = val ((xs.drop a.toNat).take s.toNat) := if_pos h
theorem getN_no {xs : List UInt8} {a s : Int} (h : getB xs.length a s = false) : getN xs a s = 0 := if_neg (by simp [h])
set_option maxHeartbeats 400000 in
theorem number_no (g a : Nat) (s : Int) (v : Value) (xs : List UInt8) (w : World) (hc : Cur w g v a) (hv : RdB w v xs) (hn : xs.length ≤ 4294967296) (ha : a ≤ 9223372036854775807) (hno : getB xs.length a s = false) :
    Calls Try.prog 321 #[.pointer (some ⟨g, 0, none⟩), .int .i64 s] w fun e w' => e = .returned (.tuple #[.int .i64 0, .iface 347 (.agg #[.int .i64 3])]) ∧ ∃ d, w' = w.drewN d := by
  have hno' : ¬ (topL2 s ≠ 0 ∧ 0 ≤ (a : Int) ∧ (a : Int) + s ≤ xs.length) := by rw [← getB_iff, hno]; simp
  clear hno
  rcases topL2_cases s with ⟨rfl, h⟩ | ⟨rfl, h⟩ | ⟨rfl, h⟩ | ⟨h1, h2, h3, h⟩
  · have hlt : xs.length < a + 1 := by omega
    clear hno' h
    go_enter Try.func321, Try.ntmps321
    go_wp2_with (go_at_call 338; refine (one_no g a v xs _ hc hv hn ha hlt).mono ?_; rintro e w' ⟨rfl, d, rfl⟩)
    go_ret2
    exact ⟨rfl, _, rfl⟩
  · have hlt : xs.length < a + 2 := by omega
    clear hno' h
    go_enter Try.func321, Try.ntmps321
    go_wp2_with (go_at_call 339; refine (two_no g a v xs _ hc hv hn ha hlt).mono ?_; rintro e w' ⟨rfl, d, rfl⟩)
    go_ret2
    exact ⟨rfl, _, rfl⟩
  · have hlt : xs.length < a + 4 := by omega
    clear hno' h
    go_enter Try.func321, Try.ntmps321
    go_wp2_with (go_at_call 340; refine (four_no g a v xs _ hc hv hn ha hlt).mono ?_; rintro e w' ⟨rfl, d, rfl⟩)
    go_ret2
    exact ⟨rfl, _, rfl⟩
  · clear hno' h
    go_enter Try.func321, Try.ntmps321
    go_wp2
    go_ret2
    exact ⟨rfl, 0, rfl⟩
set_option maxHeartbeats 400000 in
theorem number_yes (g a : Nat) (s : Int) (v : Value) (xs : List UInt8) (w : World) (hc : Cur w g v a) (hv : RdB w v xs) (hn : xs.length ≤ 4294967296) (hyes : getB xs.length a s = true) :
    Calls Try.prog 321 #[.pointer (some ⟨g, 0, none⟩), .int .i64 s] w fun e w' => e = .returned (.tuple #[.int .i64 (val ((xs.drop a).take s.toNat)), .nilIface]) ∧ ∃ d, w' = (w.setCell ⟨g, 1, none⟩ (.int .i64 ((a + s.toNat : Nat) : Int))).drewN d := by
  have hy := getB_iff.1 hyes
  clear hyes
  rcases topL2_cases s with ⟨rfl, h⟩ | ⟨rfl, h⟩ | ⟨rfl, h⟩ | ⟨h1, h2, h3, h⟩
  · have hlt : a + 1 ≤ xs.length := by omega
    clear hy h
    go_enter Try.func321, Try.ntmps321
    go_wp2_with (go_at_call 338; refine (one_yes g a v xs _ hc hv hn hlt).mono ?_; rintro e w' ⟨rfl, d, hw⟩; have Hw := Lib.hid hw; clear hw)
    go_ret2
    exact ⟨rfl, _, Hw.out⟩
  · have hlt : a + 2 ≤ xs.length := by omega
    clear hy h
    go_enter Try.func321, Try.ntmps321
    go_wp2_with (go_at_call 339; refine (two_yes g a v xs _ hc hv hn hlt).mono ?_; rintro e w' ⟨rfl, d, hw⟩; have Hw := Lib.hid hw; clear hw)
    go_ret2
    exact ⟨rfl, _, Hw.out⟩
  · have hlt : a + 4 ≤ xs.length := by omega
    clear hy h
    go_enter Try.func321, Try.ntmps321
    go_wp2_with (go_at_call 340; refine (four_yes g a v xs _ hc hv hn hlt).mono ?_; rintro e w' ⟨rfl, d, hw⟩; have Hw := Lib.hid hw; clear hw)
    go_ret2
    exact ⟨rfl, _, Hw.out⟩
  · exact absurd h hy.1
theorem Cur.new (w : World) (v : Value) (a : Nat) : Cur (w.alloc (.cells #[v, .int .i64 a] 304)) w.heap.size v a := by
  have h := heap_alloc_new w (.cells #[v, .int .i64 a] 304)
  exact ⟨by rw [cell_of_row _ _ 0 _ _ _ h]; rfl, by rw [cell_of_row _ _ 1 _ _ _ h]; rfl, fun j => World.frozen?_alloc_at _ _ _ j rfl⟩
theorem val_snoc (l : List UInt8) (b : UInt8) : val (l ++ [b]) = 256 * val l + b.toNat := by simp [val]
theorem val_le (l : List UInt8) : val l < 256 ^ l.length := by
  have h : ∀ (l : List UInt8) (n : Nat), l.foldl (fun n b => 256 * n + b.toNat) n < 256 ^ l.length * (n + 1) := by
    intro l
    induction l with
    | nil => intro n; simp
    | cons b l ih =>
      intro n
      have := ih (256 * n + b.toNat)
      have hb := byte_lt b
      rw [List.foldl_cons, List.length_cons, Nat.pow_succ, Nat.mul_assoc]
      refine Nat.lt_of_lt_of_le this (Nat.mul_le_mul_left _ (by omega))
  simpa [val] using h l 0
set_option maxHeartbeats 400000 in
theorem specGet_any (v : Value) (xs : List UInt8) (a s : Int) (w : World) (hv : RdB w v xs) (hn : xs.length ≤ 4294967296) (ha : a ≤ 9223372036854775807) :
    Calls Try.prog 283 #[v, .int .i64 a, .int .i64 s] w fun e w' => e = .returned (.tuple #[.int .i64 (getN xs a s), .bool (getB xs.length a s)]) ∧ w = w' := by
  obtain ⟨A, c, rfl⟩ := hv.slice
  generalize hl : xs.length = n at *
  by_cases ht : topL2 s = 0
  · have hb : getB n a s = false := by simp [getB, ht]
    have he : (topL2 s == 0) = true := by simp [ht]
    rw [getN_no (by rw [hl]; exact hb), hb]
    clear hb ht
    go_enter Try.func283, Try.ntmps283
    go_wp2_with (go_at_call 320; refine (l2Top_any _ _).mono ?_; rintro e w' ⟨rfl, rfl⟩)
    go_ret2
    exact ⟨rfl, rfl⟩
  · have hs : 1 ≤ s ∧ s ≤ 4 := by have := topL2_cases s; omega
    have he : (topL2 s == 0) = false := by simp [ht]
    rcases hh : getB n a s with _ | _
    · have hno : a < 0 ∨ (n : Int) - s < a := by
        have : ¬ (topL2 s ≠ 0 ∧ 0 ≤ a ∧ a + s ≤ n) := by rw [← getB_iff, hh]; simp
        omega
      rw [getN_no (by rw [hl]; exact hh)]
      clear hh ht hl
      rcases hno with hno | hno
      · go_enter Try.func283, Try.ntmps283
        go_wp2_with (go_at_call 320; refine (l2Top_any _ _).mono ?_; rintro e w' ⟨rfl, rfl⟩)
        go_ret2
        exact ⟨rfl, rfl⟩
      · by_cases h0 : a < 0
        · go_enter Try.func283, Try.ntmps283
          go_wp2_with (go_at_call 320; refine (l2Top_any _ _).mono ?_; rintro e w' ⟨rfl, rfl⟩)
          go_ret2
          exact ⟨rfl, rfl⟩
        · go_enter Try.func283, Try.ntmps283
          go_wp2_with (go_at_call 320; refine (l2Top_any _ _).mono ?_; rintro e w' ⟨rfl, rfl⟩)
          go_ret2
          exact ⟨rfl, rfl⟩
    · have hy := getB_iff.1 hh
      rw [getN_yes (by rw [hl]; exact hh)]
      obtain ⟨at', rfl⟩ := Int.eq_ofNat_of_zero_le hy.2.1
      obtain ⟨S, rfl⟩ := Int.eq_ofNat_of_zero_le (show 0 ≤ s by omega)
      have hle : at' + S ≤ n := by omega
      have Hl := Lib.hid hl
      clear hh hy ht hl
      go_enter Try.func283, Try.ntmps283
      go_wp2_with (go_at_call 320; refine (l2Top_any _ _).mono ?_; rintro e w' ⟨rfl, rfl⟩)
      go_loop [8, 9] (fun q i => ∃ j : Nat, j ≤ S ∧ i = .int .i64 j ∧ q = .int .i64 (val ((xs.drop at').take j))) (fun _ i => S - (intOf i).toNat)
      case atStart => exact ⟨0, by omega, rfl, by simp [val]⟩
      case round =>
        obtain ⟨j, hj, rfl, rfl⟩ := hrel
        by_cases hlt : j < S
        · obtain ⟨ad, hk, rfl, hc⟩ := hv.at_ (k := at' + j) (by omega)
          have hv1 := val_le ((xs.drop at').take j)
          have hv2 : val ((xs.drop at').take j) < 16777216 := Nat.lt_of_lt_of_le hv1 (by
            have h3 : ((xs.drop at').take j).length ≤ 3 := by simp; omega
            exact Nat.le_trans (Nat.pow_le_pow_right (by omega) h3) (by decide))
          have Hs := Lib.hid (show val ((xs.drop at').take (j + 1)) = 256 * val ((xs.drop at').take j) + xs[at' + j].toNat by
            rw [List.take_succ_eq_append_getElem (by simp; omega), val_snoc, List.getElem_drop])
          have hb := byte_lt xs[at' + j]
          clear hv1
          generalize xs[at' + j].toNat = y at *
          generalize val ((xs.drop at').take j) = V at *
          go_wp2
          exact ⟨⟨j + 1, by omega, by go_num, congrArg _ (by rw [Hs.out]; omega)⟩, by simp [intOf]; omega⟩
        · have : j = S := by omega
          subst this
          go_wp2
          go_ret2
          exact ⟨rfl, rfl⟩

end Go.Proofs.Ythdjjgbjemaabaa
