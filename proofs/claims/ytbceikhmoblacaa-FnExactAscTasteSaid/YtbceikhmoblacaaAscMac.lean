/-
  The sum of a cookie: AscMac of the program and of the model, over one plain function of integers.
-/
import Derived.Test.YtbceikhmoblacaaTyAscCookie
namespace Go.Proofs.Ytbceikhmoblacaa
open Go.ChangeShapes Go.WideShapes Go.ChangeAt Go.RowKit
set_option linter.unusedVariables false
set_option linter.unusedSimpArgs false

theorem tmod_M (n : Int) : -2147483647 < n.tmod 2147483647 ∧ n.tmod 2147483647 < 2147483647 ∧ n % 2147483647 = (n.tmod 2147483647) % 2147483647 := by
  have h1 := Int.tmod_lt_of_pos n (show 0 < (2147483647 : Int) by omega)
  have h2 := Int.lt_tmod_of_pos n (show 0 < (2147483647 : Int) by omega)
  refine ⟨by omega, h1, ?_⟩
  have h3 := Int.mul_tdiv_add_tmod n 2147483647
  omega
theorem tmod_pos (n : Int) (h : 0 ≤ n) : n.tmod 2147483647 = n % 2147483647 := Int.tmod_eq_emod_of_nonneg h
/-- One number more. -/
def mixF (x n : Int) : Int := (x * 48271 + n % 2147483647 + 1) % 2147483647
theorem mix_bd (x n : Int) : 0 ≤ mixF x n ∧ mixF x n < 2147483647 := by unfold mixF; omega
/-- Numbers, one after the other. -/
def mixL (x : Int) (ns : List Int) : Int := ns.foldl mixF x
theorem mixL_bd (x : Int) (ns : List Int) (hx : 0 ≤ x ∧ x < 2147483647) : 0 ≤ mixL x ns ∧ mixL x ns < 2147483647 := by
  unfold mixL
  induction ns generalizing x with
  | nil => exact hx
  | cons n ns ih => exact ih _ (mix_bd x n)
theorem mixL_succ {x : Int} {ns : List Int} {j : Nat} (h : j < ns.length) : mixL x (ns.take (j + 1)) = mixF (mixL x (ns.take j)) ns[j] := by
  unfold mixL
  rw [List.take_succ_eq_append_getElem h, List.foldl_append]
  rfl
set_option maxHeartbeats 400000 in
theorem l5Mix_any (x n : Int) (w : World) (hx : 0 ≤ x ∧ x < 2147483647) : Calls Try.prog 164 #[.int .i64 x, .int .i64 n] w fun e w' => e = .returned (.int .i64 (mixF x n)) ∧ w = w' := by
  obtain ⟨h1, h2, h3⟩ := tmod_M n
  have Hr := Lib.hid (show mixF x n = (x * 48271 + n.tmod 2147483647 % 2147483647 + 1) % 2147483647 by rw [← h3]; rfl)
  clear h3
  generalize mixF x n = r at *
  by_cases ht : n.tmod 2147483647 < 0
  all_goals
    go_enter Try.func164, Try.ntmps164
    go_wp2
    go_ret
    exact ⟨retI (by rw [Hr.out]; omega), rfl⟩
set_option maxHeartbeats 400000 in
theorem ascTakeIn_any (x : Int) (v : Value) (ns : List Int) (w : World) (hx : 0 ≤ x ∧ x < 2147483647) (hv : RdI w v ns) : Calls Try.prog 167 #[.int .i64 x, v] w fun e w' => e = .returned (.int .i64 (mixL x ns)) ∧ w = w' := by
  obtain ⟨A, c, rfl⟩ := hv.slice
  have hc := hv.cap
  have Hv := Lib.hid hv
  clear hv
  generalize hl : ns.length = l at *
  have Hl := Lib.hid hl
  clear hl
  go_enter Try.func167, Try.ntmps167
  go_wp2
  go_loop [0, 10] (fun q i => ∃ j : Nat, j ≤ l ∧ i = .int .i64 j ∧ q = .int .i64 (mixL x (ns.take j))) (fun _ i => l - (intOf i).toNat)
  case atStart => exact ⟨0, by omega, rfl, rfl⟩
  case round =>
    obtain ⟨j, hj, rfl, rfl⟩ := hrel
    have hb := mixL_bd x (ns.take j) hx
    by_cases hlt : j < l
    · obtain ⟨ad, hk, rfl, hcell⟩ := Hv.out.at_ hlt
      have Hm := Lib.hid (mixL_succ (x := x) hk)
      obtain ⟨h1, h2, h3⟩ := tmod_M ns[j]
      have Hr := Lib.hid (show mixF (mixL x (ns.take j)) ns[j] = (mixL x (ns.take j) * 48271 + ns[j].tmod 2147483647 % 2147483647 + 1) % 2147483647 by rw [← h3]; rfl)
      have h4 := tmod_pos (ns[j].tmod 2147483647 + 2147483647) (by omega)
      clear h3
      generalize mixL x (ns.take j) = q at *
      generalize ns[j] = z at *
      have h5 : 0 ≤ (z.tmod 2147483647 + 2147483647).tmod 2147483647 ∧ (z.tmod 2147483647 + 2147483647).tmod 2147483647 < 2147483647 := by rw [h4]; omega
      have H4 := Lib.hid h4
      clear h4
      go_wp2
      exact ⟨⟨j + 1, by omega, by go_num, congrArg _ (by rw [Hm.out, Hr.out]; omega)⟩, by simp [intOf]; omega⟩
    · have : j = l := by omega
      subst this
      have Hx := Lib.hid (List.take_of_length_le (l := ns) (i := j) (by rw [Hl.out]; omega))
      go_wp2
      go_ret
      exact ⟨retI (by rw [Hx.out]), rfl⟩
end Go.Proofs.Ytbceikhmoblacaa
