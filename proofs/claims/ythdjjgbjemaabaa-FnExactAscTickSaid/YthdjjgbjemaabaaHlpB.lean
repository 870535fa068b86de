/-
  The contracts of the laws' own helpers on rows of bytes: eqByteS, markByteS, heldByteS, toByteS.
-/
import Derived.Test.YthdjjgbjemaabaaMem
namespace Go.Proofs.Ythdjjgbjemaabaa
open Go.ChangeShapes Go.WideShapes Go.ChangeAt Go.RowKit

set_option maxHeartbeats 400000 in
theorem eqByteS_any (v u : Value) (xs ys : List UInt8) (w : World) (hv : RdB w v xs) (hu : RdB w u ys) (hx : xs.length ≤ 4294967296) (hy : ys.length ≤ 4294967296) :
    Calls Try.prog 155 #[v, u] w fun e w' => e = .returned (.bool (xs == ys)) ∧ ∃ n, w' = w.drewN n := by
  obtain ⟨A, c, rfl⟩ := hv.slice
  obtain ⟨A', c', rfl⟩ := hu.slice
  generalize hn : xs.length = n at *
  generalize hm : ys.length = m at *
  by_cases hl : n = m
  · subst hl
    have Hn := Lib.hid hn
    have Hm := Lib.hid hm
    clear hn hm
    go_enter Try.func155, Try.ntmps155
    go_wp2
    go_loopw [5] (fun i w1 => ∃ k d : Nat, k ≤ n ∧ i = .int .i64 k ∧ w1 = w.drewN d ∧ xs.take k = ys.take k) (fun i _ => n - (intOf i).toNat)
    case atStart => exact ⟨0, 0, by omega, rfl, rfl, rfl⟩
    case round =>
      obtain ⟨k, d, hk, rfl, rfl, ht⟩ := hrel
      have Ht := Lib.hid ht
      clear ht
      by_cases hlt : k < n
      · obtain ⟨ad, hkx, rfl, hc⟩ := hv.at_ hlt
        obtain ⟨ad', hky, rfl, hc'⟩ := hu.at_ hlt
        by_cases he : xs[k] = ys[k]
        · have hb : (((xs[k].toNat : Nat) : Int) != ((ys[k].toNat : Nat) : Int)) = false := by simp [he]
          have He := Lib.hid he
          clear he
          go_wp2
          go_quiet (fail)
          go_wp2
          exact ⟨⟨k + 1, d + nq, by omega, by go_num, rfl, take_succ_eq hkx hky Ht.out He.out⟩, by simp [intOf]; omega⟩
        · have hb : (((xs[k].toNat : Nat) : Int) != ((ys[k].toNat : Nat) : Int)) = true := by
            rw [bne_iff_ne]; intro h; exact he (UInt8.toNat_inj.1 (by omega))
          have hne := ne_of_at hkx hky he
          have He := Lib.hid (show (xs == ys) = false by simpa using hne)
          clear he hne
          go_wp2
          go_quiet (fail)
          go_wp2
          go_ret
          exact ⟨retB He.out.symm, _, World.drewN_drewN _ _ _⟩
      · have He := Lib.hid (show (xs == ys) = true by
          have h1 := Ht.out
          rw [List.take_of_length_le (by rw [Hn.out]; omega), List.take_of_length_le (by rw [Hm.out]; omega)] at h1
          simp [h1])
        go_wp2
        go_ret
        exact ⟨retB He.out.symm, _, rfl⟩
  · have hb : ((n : Int) != (m : Int)) = true := by rw [bne_iff_ne]; omega
    have He := Lib.hid (show (xs == ys) = false by
      simp only [beq_eq_false_iff_ne]; rintro rfl; omega)
    clear hn hm hl
    go_enter Try.func155, Try.ntmps155
    go_wp2
    go_ret
    exact ⟨retB He.out.symm, 0, rfl⟩

set_option maxHeartbeats 400000 in
theorem heldByteS_any (v : Value) (k : Int) (n : Nat) (w : World) (hv : RdB w v (marks k n)) (hn : n ≤ 4294967296) (hk : 0 ≤ k ∧ k ≤ 1099511627776) :
    Calls Try.prog 129 #[v, .int .i64 k] w fun e w' => e = .returned (.int .i64 (k + n)) ∧ w = w' := by
  obtain ⟨A, c, rfl⟩ := hv.slice
  rw [marks_len] at *
  go_enter Try.func129, Try.ntmps129
  go_wp2
  go_loop [1, 5] (fun q i => ∃ j : Nat, j ≤ n ∧ i = .int .i64 j ∧ q = .int .i64 (k + j)) (fun _ i => n - (intOf i).toNat)
  case atStart => exact ⟨0, by omega, rfl, by simp⟩
  case round =>
    obtain ⟨j, hj, rfl, rfl⟩ := hrel
    by_cases hlt : j < n
    · obtain ⟨ad, hkx, rfl, hc⟩ := hv.at_ hlt
      rw [marks_get] at hc
      go_wp2
      exact ⟨⟨j + 1, by omega, by go_num, congrArg _ (by omega)⟩, by simp [intOf]; omega⟩
    · have : j = n := by omega
      subst this
      go_wp2
      go_ret
      exact ⟨rfl, rfl⟩
set_option maxHeartbeats 400000 in
theorem markByteS_any (v : Value) (k : Int) (xs : List UInt8) (lo hi : Nat) (w : World) (hv : OwB w lo hi v xs) (hn : xs.length ≤ 4294967296) (hk : 0 ≤ k ∧ k ≤ 1099511627776) :
    Calls Try.prog 128 #[v, .int .i64 k] w fun e w' => e = .returned (.int .i64 (k + xs.length)) ∧ OwB w' lo hi v (marks k xs.length) ∧ Fr lo hi w w' := by
  obtain ⟨A, c, rfl⟩ := hv.rd.slice
  generalize hl : xs.length = n at *
  have Hl := Lib.hid hl
  clear hl
  go_enter Try.func128, Try.ntmps128
  go_wp2
  go_loopw [1, 5] (fun q i w1 => ∃ j : Nat, j ≤ n ∧ i = .int .i64 j ∧ q = .int .i64 (k + j) ∧ OwB w1 lo hi (.slice A n c) (marks k j ++ xs.drop j) ∧ Fr lo hi w w1) (fun _ i _ => n - (intOf i).toNat)
  case atStart => exact ⟨0, by omega, rfl, by simp, by simpa [marks] using hv, Fr.refl _ _ _⟩
  case round =>
    obtain ⟨j, hj, rfl, rfl, ho, hf⟩ := hrel
    by_cases hlt : j < n
    · obtain ⟨g, rfl, hg1, hg2, hg3⟩ := ho.form (by omega)
      obtain ⟨x, hc⟩ := ho.cellAt hlt
      have hz := ho.frozenAt j
      obtain ⟨h1, h2⟩ := ho.store (j := j) (UInt8.ofNat ((k + (j : Int)) % 256).toNat)
      rw [marks_set k j xs _ (by rw [Hl.out]; exact hlt) rfl] at h1
      rw [← byt_mod] at h1 h2
      go_wp2
      exact ⟨⟨j + 1, by omega, by go_num, congrArg _ (by omega), h1, hf.trans h2⟩, by simp [intOf]; omega⟩
    · have : j = n := by omega
      subst this
      have ho' : OwB wr lo hi (.slice A j c) (marks k j) := by
        have h0 := ho
        rw [List.drop_of_length_le (by rw [Hl.out]; omega), List.append_nil] at h0
        exact h0
      go_wp2
      go_ret
      exact ⟨rfl, ho', hf⟩

set_option maxHeartbeats 400000 in
theorem toByteS_any (v : Value) (xs : List UInt8) (w : World) (hv : RdB w v xs) (hn : xs.length ≤ 4294967296) :
    Calls Try.prog 148 #[v] w fun e w' => ∃ v', e = .returned v' ∧ OwB w' w.heap.size w'.heap.size v' xs ∧ Below w.heap.size w w' := by
  obtain ⟨i0, hi0, hz0, hz1, hz2⟩ := info_parts info_byte
  obtain ⟨A, c, rfl⟩ := hv.slice
  generalize hl : xs.length = n at *
  have Hl := Lib.hid hl
  have Hv := Lib.hid hv
  clear hl hv
  go_enter Try.func148, Try.ntmps148
  go_wp2_with (at_make; refine wpList_make_full _ rfl _ _ 22 rfl w.heap.size 5 i0 _ 1 Try.underlying22 hi0 hz0 hz1 _ _ _ _ n rfl rfl rfl rfl (by rw [hz2]; omega) (by unfold maxLen; omega) (Nat.le_refl _) ?_; intro w1 h1 h2)
  have O1 := Lib.hid (OwB.made h1)
  have B1 := Lib.hid ((Below.refl w.heap.size w).grown h2 (Nat.le_refl _) (by simp))
  clear h1 h2
  go_loopw [4] (fun i w2 => ∃ j : Nat, j ≤ n ∧ i = .int .i64 j ∧ OwB w2 w.heap.size w1.heap.size (.slice (some ⟨w.heap.size, 0, none⟩) n n) (xs.take j ++ List.replicate (xs.length - j) 0) ∧ Below w.heap.size w w2) (fun i _ => n - (intOf i).toNat)
  case atStart => exact ⟨0, by omega, rfl, by simpa [Hl.out] using O1.out, B1.out⟩
  case round =>
    obtain ⟨j, hj, rfl, ho, hb⟩ := hrel
    have Ho := Lib.hid ho
    have Hb := Lib.hid hb
    clear ho hb
    by_cases hlt : j < n
    · obtain ⟨ad, hk, rfl, hc⟩ := (Hv.out.below Hb.out).at_ hlt
      have hz := Ho.out.frozenAt j
      obtain ⟨x, hc2⟩ := Ho.out.cellAt hlt
      obtain ⟨h1, h2⟩ := Ho.out.store (j := j) xs[j]
      rw [replicate_set xs j hk] at h1
      have H1 := Lib.hid h1
      have H2 := Lib.hid (Hb.out.trans (h2.below (Nat.le_refl _) Hb.out.size))
      clear h1 h2
      go_wp2
      exact ⟨⟨j + 1, by omega, by go_num, H1.out, H2.out⟩, by simp [intOf]; omega⟩
    · have : j = n := by omega
      subst this
      go_wp2
      go_ret
      refine ⟨_, rfl, ?_, Hb.out⟩
      have h := Ho.out
      rw [List.take_of_length_le (by rw [Hl.out]; omega), Hl.out, Nat.sub_self, List.replicate_zero, List.append_nil] at h
      exact ⟨h.1, fun k hk => (h.1.lt k hk).2⟩

end Go.Proofs.Ythdjjgbjemaabaa
