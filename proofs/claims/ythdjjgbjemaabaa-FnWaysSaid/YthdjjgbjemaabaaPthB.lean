/-
  The contracts of ways, second part: a new way, one that was heard, one that was lost.
-/
import Derived.Test.YthdjjgbjemaabaaPth
import Derived.Test.YthdjjgbjemaabaaBlk
import Derived.StillTailTactics
import Derived.Deep.RegionWith
namespace Go.Proofs.Ythdjjgbjemaabaa
open Go.ChangeShapes Go.WideShapes Go.ChangeAt Go.RowKit
set_option linter.unusedVariables false

/-- A number within bounds. -/
def clampI (n lo hi : Int) : Int := if n < lo then lo else if hi < n then hi else n
/-- How far two numbers are apart. -/
def farI (a b : Int) : Int := if a < b then b - a else a - b
theorem clampI_cases (n lo hi : Int) (h : lo ≤ hi) : (n < lo ∧ clampI n lo hi = lo) ∨ (hi < n ∧ clampI n lo hi = hi) ∨ (lo ≤ n ∧ n ≤ hi ∧ clampI n lo hi = n) := by
  unfold clampI; split
  · left; omega
  · split <;> omega
theorem farI_cases (a b : Int) : (a < b ∧ farI a b = b - a) ∨ (b ≤ a ∧ farI a b = a - b) := by
  unfold farI; split <;> omega
set_option maxHeartbeats 400000 in
theorem l7Clamp_any (n lo hi : Int) (w : World) : Calls Try.prog 101 #[.int .i64 n, .int .i64 lo, .int .i64 hi] w fun e w' => e = .returned (.int .i64 (clampI n lo hi)) ∧ w = w' := by
  go_enter Try.func101, Try.ntmps101
  go_wp2
  all_goals
    go_ret
    exact ⟨ret_int (by unfold clampI; split <;> (try split) <;> omega), rfl⟩
set_option maxHeartbeats 400000 in
theorem l7Far_any (a b : Int) (w : World) (ha : -1000 ≤ a ∧ a ≤ 1000) (hb : -1000 ≤ b ∧ b ≤ 1000) : Calls Try.prog 102 #[.int .i64 a, .int .i64 b] w fun e w' => e = .returned (.int .i64 (farI a b)) ∧ w = w' := by
  go_enter Try.func102, Try.ntmps102
  go_wp2
  all_goals
    go_ret
    exact ⟨ret_int (by have := farI_cases a b; omega), rfl⟩
set_option maxHeartbeats 400000 in
theorem pthBetween_any (n lo hi : Int) (w : World) (hlh : lo ≤ hi) : Calls Try.prog 99 #[.int .i64 n, .int .i64 lo, .int .i64 hi] w fun e w' => e = .returned (.int .i64 (clampI n lo hi)) ∧ w = w' := by
  go_enter Try.func99, Try.ntmps99
  go_wp2
  all_goals
    go_ret
    exact ⟨ret_int (by have := clampI_cases n lo hi hlh; omega), rfl⟩
set_option maxHeartbeats 400000 in
theorem pthApart_any (a b : Int) (w : World) (ha : -1000 ≤ a ∧ a ≤ 1000) (hb : -1000 ≤ b ∧ b ≤ 1000) : Calls Try.prog 218 #[.int .i64 a, .int .i64 b] w fun e w' => e = .returned (.int .i64 (farI a b)) ∧ w = w' := by
  go_enter Try.func218, Try.ntmps218
  go_wp2
  all_goals
    go_ret
    exact ⟨ret_int (by have := farI_cases a b; omega), rfl⟩
theorem bcellP {W w1 : World} (hb : Below W.heap.size W w1) : (∀ b o, b < W.heap.size → w1.cell? ⟨b, o, none⟩ = W.cell? ⟨b, o, none⟩) ∧ (∀ b o, b < W.heap.size → w1.frozen? ⟨b, o, none⟩ = W.frozen? ⟨b, o, none⟩) :=
  ⟨fun b o h => hb.cell (p := ⟨b, o, none⟩) h, fun b o h => hb.frozen (p := ⟨b, o, none⟩) h⟩

/-- A new way. -/
def openW (a : Int) : Value := if inB a 0 65535 then .agg #[.int .i64 a, .bool true, .int .i64 0, .int .i64 0, .int .i64 0, .int .i64 3] else .agg #[.int .i64 0, .bool false, .int .i64 0, .int .i64 0, .int .i64 0, .int .i64 0]
set_option maxHeartbeats 400000 in
theorem specOpen_no (a : Int) (w : World) (h : inB a 0 65535 = false) : Calls Try.prog 284 #[.int .i64 a] w fun e w' => e = .returned (.agg #[.int .i64 0, .bool false, .int .i64 0, .int .i64 0, .int .i64 0, .int .i64 0]) ∧ Below w.heap.size w w' := by
  go_enter Try.func284, Try.ntmps284
  go_wp2_with (go_at_call 107; refine (l4Short_any _ _).mono ?_; rintro e w' ⟨rfl, rfl⟩)
  refine bodyPost_ret (v := .agg #[.int .i64 0, .bool false, .int .i64 0, .int .i64 0, .int .i64 0, .int .i64 0]) (by simp [results, Try.results284, go_sem]) rfl ⟨rfl, ?_⟩
  repeat first | with_reducible exact Below.refl _ _ | with_reducible assumption | with_reducible refine Below.setCell ?_ (by simp <;> omega) _ | with_reducible refine Below.alloc ?_ (by simp <;> omega) _ | with_reducible refine Below.drew ?_
set_option maxHeartbeats 400000 in
theorem specOpen_yes (a : Int) (w : World) (h : inB a 0 65535 = true) : Calls Try.prog 284 #[.int .i64 a] w fun e w' => e = .returned (.agg #[.int .i64 a, .bool true, .int .i64 0, .int .i64 0, .int .i64 0, .int .i64 3]) ∧ Below w.heap.size w w' := by
  go_enter Try.func284, Try.ntmps284
  go_wp2_with (go_at_call 107; refine (l4Short_any _ _).mono ?_; rintro e w' ⟨rfl, rfl⟩)
  refine bodyPost_ret (v := .agg #[.int .i64 a, .bool true, .int .i64 0, .int .i64 0, .int .i64 0, .int .i64 3]) (by simp [results, Try.results284, go_sem]) rfl ⟨rfl, ?_⟩
  repeat first | with_reducible exact Below.refl _ _ | with_reducible assumption | with_reducible refine Below.setCell ?_ (by simp <;> omega) _ | with_reducible refine Below.alloc ?_ (by simp <;> omega) _ | with_reducible refine Below.drew ?_

theorem keepWay {w0 : World} {b0 : Nat} {a er sr va ro : Int} {w w' : World} (h : (w.cell? ⟨b0, 0, none⟩ = some (.int .i64 sr) ∧ w.cell? ⟨b0, 1, none⟩ = some (.int .i64 va) ∧ w.cell? ⟨b0, 2, none⟩ = some (.int .i64 ro) ∧ w.cell? ⟨b0, 3, none⟩ = some (.int .i64 a) ∧ w.cell? ⟨b0, 4, none⟩ = some (.int .i64 er) ∧ Below w0.heap.size w0 w)) (hb : Below w.heap.size w w') : (w'.cell? ⟨b0, 0, none⟩ = some (.int .i64 sr) ∧ w'.cell? ⟨b0, 1, none⟩ = some (.int .i64 va) ∧ w'.cell? ⟨b0, 2, none⟩ = some (.int .i64 ro) ∧ w'.cell? ⟨b0, 3, none⟩ = some (.int .i64 a) ∧ w'.cell? ⟨b0, 4, none⟩ = some (.int .i64 er) ∧ Below w0.heap.size w0 w') := by
  obtain ⟨h2, h3, h4, h5, h6, h7⟩ := h
  have k : ∀ b o v, w.cell? ⟨b, o, none⟩ = some v → w'.cell? ⟨b, o, none⟩ = some v := fun b o v hv => (hb.cell (p := ⟨b, o, none⟩) (World.block_lt_of_cell? w _ hv)).trans hv
  exact ⟨k _ _ _ h2, k _ _ _ h3, k _ _ _ h4, k _ _ _ h5, k _ _ _ h6, h7.trans (hb.mono h7.size)⟩
theorem keepWaySet {w0 : World} {b0 b o : Nat} {v : Value} {a er sr va ro : Int} {w : World} (h : (w.cell? ⟨b0, 0, none⟩ = some (.int .i64 sr) ∧ w.cell? ⟨b0, 1, none⟩ = some (.int .i64 va) ∧ w.cell? ⟨b0, 2, none⟩ = some (.int .i64 ro) ∧ w.cell? ⟨b0, 3, none⟩ = some (.int .i64 a) ∧ w.cell? ⟨b0, 4, none⟩ = some (.int .i64 er) ∧ Below w0.heap.size w0 w)) (hb : b ≠ b0) (h0 : w0.heap.size ≤ b) : ((w.setCell ⟨b, o, none⟩ v).cell? ⟨b0, 0, none⟩ = some (.int .i64 sr) ∧ (w.setCell ⟨b, o, none⟩ v).cell? ⟨b0, 1, none⟩ = some (.int .i64 va) ∧ (w.setCell ⟨b, o, none⟩ v).cell? ⟨b0, 2, none⟩ = some (.int .i64 ro) ∧ (w.setCell ⟨b, o, none⟩ v).cell? ⟨b0, 3, none⟩ = some (.int .i64 a) ∧ (w.setCell ⟨b, o, none⟩ v).cell? ⟨b0, 4, none⟩ = some (.int .i64 er) ∧ Below w0.heap.size w0 (w.setCell ⟨b, o, none⟩ v)) := by
  obtain ⟨h2, h3, h4, h5, h6, h7⟩ := h
  have k : ∀ o' u, w.cell? ⟨b0, o', none⟩ = some u → (w.setCell ⟨b, o, none⟩ v).cell? ⟨b0, o', none⟩ = some u := fun o' u hv => (World.cell?_setCell_far w ⟨b, o, none⟩ ⟨b0, o', none⟩ v hb).trans hv
  exact ⟨k _ _ h2, k _ _ h3, k _ _ h4, k _ _ h5, k _ _ h6, h7.setCell h0 _⟩
set_option maxHeartbeats 400000 in
theorem way_any (sr va ro a er : Int) (w : World) : Calls Try.prog 100 #[.agg #[.int .i64 sr, .int .i64 va, .int .i64 ro, .int .i64 a, .int .i64 er]] w fun e w' => e = .returned (.agg #[.int .i64 a, .bool (decide (er ≤ 2)), .int .i64 er, .int .i64 sr, .int .i64 va, .int .i64 ro]) ∧ Below w.heap.size w w' := by
  go_enter Try.func100, Try.ntmps100
  go_wp2_with fail
  generalize hw2 : World.alloc _ _ = w2
  have S0 : w2.cell? ⟨w.heap.size, 0, none⟩ = some (.int .i64 sr) ∧ w2.cell? ⟨w.heap.size, 1, none⟩ = some (.int .i64 va) ∧ w2.cell? ⟨w.heap.size, 2, none⟩ = some (.int .i64 ro) ∧ w2.cell? ⟨w.heap.size, 3, none⟩ = some (.int .i64 a) ∧ w2.cell? ⟨w.heap.size, 4, none⟩ = some (.int .i64 er) ∧ Below w.heap.size w w2 := by
    subst hw2
    refine ⟨?_, ?_, ?_, ?_, ?_, ?_⟩
    · go_simp
    · go_simp
    · go_simp
    · go_simp
    · go_simp
    · exact ((Below.refl _ _).alloc (Nat.le_refl _) _).alloc (by simp) _
  have hz : w.heap.size + 1 < w2.heap.size := by subst hw2; simp
  have R : (w2.cell? ⟨w.heap.size + 1, 0, none⟩ = some (.int .i64 0) ∧ w2.cell? ⟨w.heap.size + 1, 1, none⟩ = some (.bool false) ∧ w2.cell? ⟨w.heap.size + 1, 2, none⟩ = some (.int .i64 0) ∧ w2.cell? ⟨w.heap.size + 1, 3, none⟩ = some (.int .i64 0) ∧ w2.cell? ⟨w.heap.size + 1, 4, none⟩ = some (.int .i64 0) ∧ w2.cell? ⟨w.heap.size + 1, 5, none⟩ = some (.int .i64 0)) ∧ ∀ o, w2.frozen? ⟨w.heap.size + 1, o, none⟩ = false := by
    subst hw2
    refine ⟨⟨?_, ?_, ?_, ?_, ?_, ?_⟩, ?_⟩
    · go_simp
    · go_simp
    · go_simp
    · go_simp
    · go_simp
    · go_simp
    · intro o; go_simp
  have HR := Lib.hid R
  clear hw2 R
  have S1 : w2.drew.cell? ⟨w.heap.size, 0, none⟩ = some (.int .i64 sr) ∧ w2.drew.cell? ⟨w.heap.size, 1, none⟩ = some (.int .i64 va) ∧ w2.drew.cell? ⟨w.heap.size, 2, none⟩ = some (.int .i64 ro) ∧ w2.drew.cell? ⟨w.heap.size, 3, none⟩ = some (.int .i64 a) ∧ w2.drew.cell? ⟨w.heap.size, 4, none⟩ = some (.int .i64 er) ∧ Below w.heap.size w w2.drew := ⟨S0.1, S0.2.1, S0.2.2.1, S0.2.2.2.1, S0.2.2.2.2.1, S0.2.2.2.2.2.drew⟩
  clear S0
  have HS1 := Lib.hid S1
  clear S1
  go_region_held3 (fun x => x.cell? ⟨w.heap.size, 0, none⟩ = some (.int .i64 sr) ∧ x.cell? ⟨w.heap.size, 1, none⟩ = some (.int .i64 va) ∧ x.cell? ⟨w.heap.size, 2, none⟩ = some (.int .i64 ro) ∧ x.cell? ⟨w.heap.size, 3, none⟩ = some (.int .i64 a) ∧ x.cell? ⟨w.heap.size, 4, none⟩ = some (.int .i64 er) ∧ Below w.heap.size w x) (first | (with_reducible assumption) | (with_reducible exact HS1.out) | (with_reducible refine keepWaySet (keepWaySet (keepWaySet (keepWaySet (keepWaySet (keepWaySet ?_ ?_ ?_) ?_ ?_) ?_ ?_) ?_ ?_) ?_ ?_) ?_ ?_ <;> first | assumption | omega) | (with_reducible (refine keepWay ?_ HB.out; assumption))) (first | (go_at_call 105; refine (pthOn_any _ _ _ _ _ _).mono ?_; rintro e w' ⟨rfl, hb⟩; obtain ⟨hc, hf⟩ := bcellP hb; have rc0 := (hc (w.heap.size + 1) 0 hz).trans HR.out.1.1; have rc1 := (hc (w.heap.size + 1) 1 hz).trans HR.out.1.2.1; have rc2 := (hc (w.heap.size + 1) 2 hz).trans HR.out.1.2.2.1; have rc3 := (hc (w.heap.size + 1) 3 hz).trans HR.out.1.2.2.2.1; have rc4 := (hc (w.heap.size + 1) 4 hz).trans HR.out.1.2.2.2.2.1; have rc5 := (hc (w.heap.size + 1) 5 hz).trans HR.out.1.2.2.2.2.2; have rf0 := (hf (w.heap.size + 1) 0 hz).trans (HR.out.2 0); have rf1 := (hf (w.heap.size + 1) 1 hz).trans (HR.out.2 1); have rf2 := (hf (w.heap.size + 1) 2 hz).trans (HR.out.2 2); have rf3 := (hf (w.heap.size + 1) 3 hz).trans (HR.out.2 3); have rf4 := (hf (w.heap.size + 1) 4 hz).trans (HR.out.2 4); have rf5 := (hf (w.heap.size + 1) 5 hz).trans (HR.out.2 5); have HB := Lib.hid hb; clear hc hf hb))
  all_goals
    go_wp2
    refine bodyPost_ret (v := .agg #[.int .i64 a, .bool (decide (er ≤ 2)), .int .i64 er, .int .i64 sr, .int .i64 va, .int .i64 ro]) (by simp [results, Try.results100, go_sem, rc0, rc1, rc2, rc3, rc4, rc5]) rfl ⟨rfl, ?_⟩
    go_split_ands
    assumption
theorem clampI_in {n lo hi : Int} (h : lo ≤ n ∧ n ≤ hi) : clampI n lo hi = n := by unfold clampI; split <;> (try split) <;> omega
theorem l7Clamp_eq (n lo hi r : Int) (w : World) (h : clampI n lo hi = r) : Calls Try.prog 101 #[.int .i64 n, .int .i64 lo, .int .i64 hi] w fun e w' => e = .returned (.int .i64 r) ∧ w = w' := by
  subst h; exact l7Clamp_any _ _ _ _
theorem pthBetween_eq (n lo hi r : Int) (w : World) (h : clampI n lo hi = r) (hlh : lo ≤ hi) : Calls Try.prog 99 #[.int .i64 n, .int .i64 lo, .int .i64 hi] w fun e w' => e = .returned (.int .i64 r) ∧ w = w' := by
  subst h; exact pthBetween_any _ _ _ _ hlh
theorem pthApart_eq (a b r : Int) (w : World) (h : farI a b = r) (ha : -1000 ≤ a ∧ a ≤ 1000) (hb : -1000 ≤ b ∧ b ≤ 1000) : Calls Try.prog 218 #[.int .i64 a, .int .i64 b] w fun e w' => e = .returned (.int .i64 r) ∧ w' = w := by
  subst h; exact (pthApart_any _ _ _ ha hb).mono (fun e w' h => ⟨h.1, h.2.symm⟩)
set_option maxHeartbeats 400000 in
theorem heard_z (va ro t r : Int) (w : World) (ht : 0 ≤ t ∧ t ≤ 16) (e8 : (8 * t).tdiv 8 = t) (er : clampI (t + 2 * t) 2 16 = r) :
    Calls Try.prog 98 #[.agg #[.int .i64 0, .int .i64 va, .int .i64 ro], .int .i64 t] w fun e w' => e = .returned (.agg #[.int .i64 (8 * t), .int .i64 (2 * t), .int .i64 r]) ∧ Below w.heap.size w w' := by
  go_enter Try.func98, Try.ntmps98
  go_wp2_with (go_at_call 99; refine (pthBetween_eq _ _ _ _ _ er (by omega)).mono ?_; rintro e w' ⟨rfl, rfl⟩)
  refine bodyPost_ret (v := .agg #[.int .i64 (8 * t), .int .i64 (2 * t), .int .i64 r]) (by simp [results, Try.results98, go_sem]) rfl ⟨rfl, ?_⟩
  repeat first | with_reducible exact Below.refl _ _ | with_reducible assumption | with_reducible refine Below.setCell ?_ (by simp <;> omega) _ | with_reducible refine Below.alloc ?_ (by simp <;> omega) _ | with_reducible refine Below.drew ?_
theorem i64_in {n : Int} (h : -9223372036854775808 ≤ n ∧ n ≤ 9223372036854775807) : IntKind.i64.wrap n = n := by
  first | exact w64_in h | (simp [IntKind.wrap, IntKind.bits, IntKind.signed]; omega)
set_option maxRecDepth 100000 in
set_option maxHeartbeats 400000 in
theorem heard_nz (sr va ro t q4 q8 f q r : Int) (w : World) (h0 : sr ≠ 0) (hs : 0 ≤ sr ∧ sr ≤ 128) (hv : 0 ≤ va ∧ va ≤ 64) (ht : 0 ≤ t ∧ t ≤ 16) (e4 : va.tdiv 4 = q4) (e8 : sr.tdiv 8 = q8) (ef : farI q8 t = f) (eq : (sr - q8 + t).tdiv 8 = q)
    (b4 : 0 ≤ q4 ∧ q4 ≤ 16) (b8 : 0 ≤ q8 ∧ q8 ≤ 16) (bf : 0 ≤ f ∧ f ≤ 16) (bv : 0 ≤ va - q4 + f ∧ va - q4 + f ≤ 64) (bs : 0 ≤ sr - q8 + t ∧ sr - q8 + t ≤ 128) (bq : 0 ≤ q ∧ q ≤ 16) (er : clampI (q + (va - q4 + f)) 2 16 = r) :
    Calls Try.prog 98 #[.agg #[.int .i64 sr, .int .i64 va, .int .i64 ro], .int .i64 t] w fun e w' => e = .returned (.agg #[.int .i64 (sr - q8 + t), .int .i64 (va - q4 + f), .int .i64 r]) ∧ Below w.heap.size w w' := by
  go_enter Try.func98, Try.ntmps98
  go_wp2_with fail
  generalize hw2 : World.alloc _ _ = w2
  have c0 : w2.cell? ⟨w.heap.size, 0, none⟩ = some (.int .i64 sr) := by subst hw2; go_simp
  have c1 : w2.cell? ⟨w.heap.size, 1, none⟩ = some (.int .i64 va) := by subst hw2; go_simp
  have c2 : w2.cell? ⟨w.heap.size, 2, none⟩ = some (.int .i64 ro) := by subst hw2; go_simp
  have f0 : w2.frozen? ⟨w.heap.size, 0, none⟩ = false := by subst hw2; go_simp
  have f1 : w2.frozen? ⟨w.heap.size, 1, none⟩ = false := by subst hw2; go_simp
  have f2 : w2.frozen? ⟨w.heap.size, 2, none⟩ = false := by subst hw2; go_simp
  have d0 : w2.cell? ⟨w.heap.size + 1, 0, none⟩ = some (.int .i64 0) := by subst hw2; go_simp
  have d1 : w2.cell? ⟨w.heap.size + 1, 1, none⟩ = some (.int .i64 0) := by subst hw2; go_simp
  have d2 : w2.cell? ⟨w.heap.size + 1, 2, none⟩ = some (.int .i64 0) := by subst hw2; go_simp
  have g0 : w2.frozen? ⟨w.heap.size + 1, 0, none⟩ = false := by subst hw2; go_simp
  have g1 : w2.frozen? ⟨w.heap.size + 1, 1, none⟩ = false := by subst hw2; go_simp
  have g2 : w2.frozen? ⟨w.heap.size + 1, 2, none⟩ = false := by subst hw2; go_simp
  have hb : Below w.heap.size w w2 := by subst hw2; exact ((Below.refl _ _).alloc (Nat.le_refl _) _).alloc (by simp) _
  have Hb := Lib.hid hb
  clear hw2 hb
  have k4 : IntKind.i64.wrap q4 = q4 := i64_in (by omega)
  have k8 : IntKind.i64.wrap q8 = q8 := i64_in (by omega)
  have k5 : IntKind.i64.wrap (va - q4) = va - q4 := i64_in (by omega)
  have k6 : IntKind.i64.wrap (va - q4 + f) = va - q4 + f := i64_in (by omega)
  go_still_tail 14, (by kernel_rfl)
  still_call (pthApart_eq _ _ _ _ ef (by omega) (by omega))
  repeat still_step
  refine wpStill_nil ?_
  go_wp2_with (go_at_call 99; refine (pthBetween_eq _ _ _ _ _ er (by omega)).mono ?_; rintro e w' ⟨rfl, rfl⟩)
  refine bodyPost_ret (v := .agg #[.int .i64 (sr - q8 + t), .int .i64 (va - q4 + f), .int .i64 r]) (by simp [results, Try.results98, go_sem, d0, d1, d2]) rfl ⟨rfl, ?_⟩
  have hb := Hb.out
  repeat first | with_reducible exact Below.refl _ _ | with_reducible assumption | with_reducible refine Below.setCell ?_ (by simp <;> omega) _ | with_reducible refine Below.alloc ?_ (by simp <;> omega) _ | with_reducible refine Below.drew ?_

theorem twoBlk (w : World) (c d : Array Value) (s t : TypeId) : Blk ((w.alloc (.cells c s)).alloc (.cells d t)) w.heap.size c.toList ∧ Blk ((w.alloc (.cells c s)).alloc (.cells d t)) (w.heap.size + 1) d.toList ∧ Below w.heap.size w ((w.alloc (.cells c s)).alloc (.cells d t)) :=
  ⟨(Blk.new c s rfl).alloc _, Blk.new d t (by simp), ((Below.refl _ _).alloc (Nat.le_refl _) _).alloc (by simp) _⟩
/-- The way of which an answer came behind t ticks, once its clock is reckoned. -/
def HeardC (f : Nat) (sr va ro t s v r : Int) : Prop := ∀ w : World, Calls Try.prog f #[.agg #[.int .i64 sr, .int .i64 va, .int .i64 ro], .int .i64 t] w fun e w' => e = .returned (.agg #[.int .i64 s, .int .i64 v, .int .i64 r]) ∧ Below w.heap.size w w'
end Go.Proofs.Ythdjjgbjemaabaa
