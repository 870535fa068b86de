/-
  Rows of ints in memory, and the contracts of the laws' own helpers on them: szIntS, eqIntS, markIntS, heldIntS, toIntS. (Made after Mem and HlpB.)
-/
import Derived.Test.YthdjjgbjemaabaaTlv
namespace Go.Proofs.Ythdjjgbjemaabaa
open Go.ChangeShapes Go.WideShapes Go.ChangeAt Go.RowKit
set_option linter.unusedVariables false

/-- An int as a value. -/
def itv (x : Int) : Value := .int .i64 x
/-- The marks from k on. -/
def marksI (k : Int) (n : Nat) : List Int := (List.range n).map fun (i : Nat) => k + (i : Int)
theorem marksI_len (k : Int) (n : Nat) : (marksI k n).length = n := by simp [marksI]
theorem marksI_get (k : Int) (n i : Nat) (h : i < (marksI k n).length) : (marksI k n)[i] = k + i := by simp [marksI]
theorem marksI_set (k : Int) (j : Nat) (xs : List Int) (x : Int) (h : j < xs.length) (hx : x = k + (j : Int)) : (marksI k j ++ xs.drop j).set j x = marksI k (j + 1) ++ xs.drop (j + 1) := by
  subst hx
  rw [List.drop_eq_getElem_cons h]
  have h1 : marksI k (j + 1) = marksI k j ++ [k + (j : Int)] := by simp [marksI, List.range_succ]
  rw [h1, List.set_append_right _ _ (by rw [marksI_len]; omega), marksI_len, Nat.sub_self, List.set_cons_zero, List.append_assoc]
  rfl
theorem info_int : (Try.prog.info? 3).map (fun i => (i.zero, i.size, i.bytes)) = some (some (.int .i64 0), 1, 8) := by kernel_rfl
/-- The call owns v, a row of the bytes xs, in one of the blocks lo..hi-1. -/
def OwI (w : World) (lo hi : Nat) (v : Value) (xs : List Int) : Prop :=
  w.ownsRow lo 3 1 v xs.length (xs.map itv) ∧ ∀ k, v.ownBlock = some k → k < hi
theorem OwI.fr {w w' : World} {lo hi a b : Nat} {v : Value} {xs : List Int} (h : OwI w lo hi v xs) (hf : Fr a b w w') (hd : hi ≤ a ∨ b ≤ lo) : OwI w' lo hi v xs := by
  refine ⟨⟨h.1.1, ?_⟩, h.2⟩
  rcases h.1.2 with hn | ⟨g, cap, cur, rfl, hb, hgg, rest⟩
  · exact .inl hn
  · refine .inr ⟨g, cap, cur, rfl, hb, ?_, rest⟩
    have := h.2 g rfl
    rw [hf.block g (Array.getElem?_eq_some_iff.1 hgg).1 (by omega)]
    exact hgg
theorem OwI.below {w w' : World} {lo hi B : Nat} {v : Value} {xs : List Int} (h : OwI w lo hi v xs) (hf : Below B w w') (hd : hi ≤ B) : OwI w' lo hi v xs := by
  refine ⟨⟨h.1.1, ?_⟩, h.2⟩
  rcases h.1.2 with hn | ⟨g, cap, cur, rfl, hb, hgg, rest⟩
  · exact .inl hn
  · refine .inr ⟨g, cap, cur, rfl, hb, ?_, rest⟩
    have := h.2 g rfl
    rw [hf.block g (by omega)]
    exact hgg
theorem OwI.drewN {w : World} {lo hi : Nat} {v : Value} {xs : List Int} (h : OwI w lo hi v xs) (n : Nat) : OwI (w.drewN n) lo hi v xs := h
theorem OwI.mono {w : World} {lo hi hi' : Nat} {v : Value} {xs : List Int} (h : OwI w lo hi v xs) (hh : hi ≤ hi') : OwI w lo hi' v xs :=
  ⟨h.1, fun k hk => Nat.lt_of_lt_of_le (h.2 k hk) hh⟩
theorem OwI.of_row {w : World} {lo : Nat} {v : Value} {xs : List Int} {n : Nat} {ys : List Value} (h : w.ownsRow lo 3 1 v n ys) (hy : ys = xs.map itv) (hn : n = xs.length) : OwI w lo w.heap.size v xs := by
  subst hy hn
  exact ⟨h, fun k hk => (h.lt k hk).2⟩
theorem OwI.nil (w : World) (lo hi : Nat) : OwI w lo hi (.slice none 0 0) [] := ⟨⟨by simp, .inl ⟨rfl, rfl⟩⟩, by simp [Value.ownBlock]⟩
/-- v is a slice of bytes that reads as xs. -/
def RdI (w : World) (v : Value) (xs : List Int) : Prop :=
  ∃ A c, v = .slice A xs.length c ∧ (xs.length ≤ c ∧ c ≤ maxLen) ∧ ∀ j x, xs[j]? = some x → ∃ ad, A = some ad ∧ w.cell? (ad.add j) = some (itv x)
theorem RdI.drewN {w : World} {v : Value} {xs : List Int} (h : RdI w v xs) (n : Nat) : RdI (w.drewN n) v xs := h
theorem OwI.rd {w : World} {lo hi : Nat} {v : Value} {xs : List Int} (h : OwI w lo hi v xs) : RdI w v xs := by
  rcases h.1.2 with ⟨rfl, hn⟩ | ⟨g, cap, cur, rfl, hb, hgg, hcap⟩
  · exact ⟨none, 0, by rw [hn], ⟨by omega, by decide⟩, fun j x hx => by
      have : xs = [] := List.eq_nil_of_length_eq_zero hn
      subst this; simp at hx⟩
  · refine ⟨some ⟨g, 0, none⟩, cap, rfl, ⟨hcap.1, hcap.2.1⟩, fun j x hx => ⟨_, rfl, ?_⟩⟩
    exact h.1.cells (g := g) rfl j (itv x) (by simp [hx])
/-- The cell of a slice at a place that is there. -/
theorem RdI.at_ {w : World} {A : Option Addr} {n c k : Nat} {xs : List Int} (h : RdI w (.slice A n c) xs) (hk : k < n) :
    ∃ ad, ∃ hk' : k < xs.length, A = some ad ∧ w.cell? (ad.add k) = some (.int .i64 xs[k]) := by
  obtain ⟨A', c', hv, _, hc⟩ := h
  injection hv with h1 h2 h3
  subst h1 h2
  obtain ⟨ad, he, hcell⟩ := hc k xs[k] (by simp [hk])
  exact ⟨ad, hk, he, hcell⟩
theorem RdI.len {w : World} {A : Option Addr} {n c : Nat} {xs : List Int} (h : RdI w (.slice A n c) xs) : xs.length = n := by
  obtain ⟨_, _, hv, _⟩ := h
  injection hv with _ h2 _
  exact h2.symm
theorem RdI.cap {w : World} {A : Option Addr} {n c : Nat} {xs : List Int} (h : RdI w (.slice A n c) xs) : n ≤ c ∧ c ≤ 9223372036854775807 := by
  obtain ⟨_, _, hv, hc, _⟩ := h
  injection hv with _ h2 h3
  subst h2 h3
  exact hc
theorem RdI.below {w w' : World} {v : Value} {xs : List Int} (h : RdI w v xs) (hb : Below w.heap.size w w') : RdI w' v xs := by
  obtain ⟨A, c, rfl, h1, hc⟩ := h
  refine ⟨A, c, rfl, h1, fun j x hx => ?_⟩
  obtain ⟨ad, rfl, hcell⟩ := hc j x hx
  exact ⟨ad, rfl, (hb.cell (World.block_lt_of_cell? w _ hcell)).trans hcell⟩
theorem RdI.slice {w : World} {v : Value} {xs : List Int} (h : RdI w v xs) : ∃ A c, v = .slice A xs.length c := by
  obtain ⟨A, c, hv, _⟩ := h
  exact ⟨A, c, hv⟩
theorem OwI.len {w : World} {lo hi : Nat} {A : Option Addr} {n c : Nat} {xs : List Int} (h : OwI w lo hi (.slice A n c) xs) : xs.length = n := h.rd.len
/-- A store into a row of bytes that the call owns. -/
theorem OwI.store {w : World} {lo hi g n cap j : Nat} {xs : List Int} (h : OwI w lo hi (.slice (some ⟨g, 0, none⟩) n cap) xs) (x : Int) :
    OwI (w.setCell ⟨g, j, none⟩ (itv x)) lo hi (.slice (some ⟨g, 0, none⟩) n cap) (xs.set j x) ∧ Fr lo hi w (w.setCell ⟨g, j, none⟩ (itv x)) := by
  have hl := h.len
  have h1 := h.1
  rw [hl] at h1
  obtain ⟨h2, h3⟩ := h1.stored j (itv x)
  have hg := h.2 g rfl
  have hlo := (h1.lt g rfl).1
  refine ⟨⟨?_, h.2⟩, Fr.grown h3 (fun k hk => by injection hk with hk; omega)⟩
  rw [List.length_set, hl, List.map_set]
  exact h2
theorem OwI.form {w : World} {lo hi : Nat} {A : Option Addr} {n c : Nat} {xs : List Int} (h : OwI w lo hi (.slice A n c) xs) (hn : 0 < n) : ∃ g, A = some ⟨g, 0, none⟩ ∧ lo ≤ g ∧ g < hi ∧ g < w.heap.size := by
  have hl := h.len
  obtain ⟨g, cap, hv, h1, h2⟩ := h.1.form (by omega)
  injection hv with e1 e2 e3
  subst e1
  exact ⟨g, rfl, h1, h.2 g rfl, h2⟩
theorem OwI.cellAt {w : World} {lo hi g n cap j : Nat} {xs : List Int} (h : OwI w lo hi (.slice (some ⟨g, 0, none⟩) n cap) xs) (hj : j < n) : ∃ x : Int, w.cell? ⟨g, j, none⟩ = some (.int .i64 x) := by
  have hl := h.len
  have h1 := h.1
  rw [hl] at h1
  have h2 := h1.cellAt j (by omega)
  exact ⟨xs[j], by rw [h2, List.getElem?_map, List.getElem?_eq_getElem (by omega)]; rfl⟩
theorem OwI.frozenAt {w : World} {lo hi g n cap : Nat} {xs : List Int} (h : OwI w lo hi (.slice (some ⟨g, 0, none⟩) n cap) xs) (j : Nat) : w.frozen? ⟨g, j, none⟩ = false := by
  have hl := h.len
  have h1 := h.1
  rw [hl] at h1
  exact h1.frozenAt j
theorem OwI.made {w : World} {n lo : Nat} {V : Value} (h : w.ownsRow lo 3 1 V n (madeCells #[.int .i64 0] (n * 1)).toList) : OwI w lo w.heap.size V (List.replicate n 0) := by
  refine OwI.of_row h ?_ (by simp)
  rw [toList_madeCells_one]; simp [itv]
theorem replicate_setI (xs : List Int) (j : Nat) (hj : j < xs.length) : (xs.take j ++ List.replicate (xs.length - j) 0).set j xs[j] = xs.take (j + 1) ++ List.replicate (xs.length - (j + 1)) 0 := by
  rw [List.set_append_right _ _ (by simp; omega)]
  rw [show xs.length - j = (xs.length - (j + 1)) + 1 by omega, List.replicate_succ]
  rw [show j - (List.take j xs).length = 0 by simp; omega, List.set_cons_zero, List.take_succ_eq_append_getElem hj, List.append_assoc]
  rfl


theorem OwI.alloc {w : World} {lo hi : Nat} {v : Value} {xs : List Int} (h : OwI w lo hi v xs) (o : Obj) : OwI (w.alloc o) lo hi v xs := ⟨h.1.alloc o, h.2⟩
theorem OwI.lo_le {w : World} {lo hi : Nat} {v : Value} {xs : List Int} (h : OwI w lo hi v xs) : ∀ k, v.ownBlock = some k → lo ≤ k := fun k hk => (h.1.lt k hk).1
set_option maxHeartbeats 400000 in
theorem szIntS_any (v : Value) (xs : List Int) (left : Int) (w : World) (hv : RdI w v xs) (hl : 0 ≤ left ∧ left ≤ 1048576) :
    Calls Try.prog 118 #[v, .int .i64 left] w fun e w' => e = .returned (.int .i64 (szR left xs.length)) ∧ w = w' := by
  obtain ⟨A, c, rfl⟩ := hv.slice
  have hc := hv.cap
  clear hv
  by_cases h : (xs.length : Int) ≤ left
  · rw [szR_yes h]
    generalize xs.length = n at *
    go_enter Try.func118, Try.ntmps118
    go_wp2
    go_ret
    exact ⟨rfl, rfl⟩
  · rw [szR_no h]
    generalize xs.length = n at *
    go_enter Try.func118, Try.ntmps118
    go_wp2
    go_ret
    exact ⟨rfl, rfl⟩
set_option maxHeartbeats 400000 in
theorem eqIntS_any (v u : Value) (xs ys : List Int) (w : World) (hv : RdI w v xs) (hu : RdI w u ys) (hx : xs.length ≤ 4294967296) (hy : ys.length ≤ 4294967296) :
    Calls Try.prog 29 #[v, u] w fun e w' => e = .returned (.bool (xs == ys)) ∧ ∃ n, w' = w.drewN n := by
  obtain ⟨A, c, rfl⟩ := hv.slice
  obtain ⟨A', c', rfl⟩ := hu.slice
  generalize hn : xs.length = n at *
  generalize hm : ys.length = m at *
  by_cases hl : n = m
  · subst hl
    have Hn := Lib.hid hn
    have Hm := Lib.hid hm
    clear hn hm
    go_enter Try.func29, Try.ntmps29
    go_wp2
    go_loopw [5] (fun i w1 => ∃ k d : Nat, k ≤ n ∧ i = .int .i64 k ∧ w1 = w.drewN d ∧ xs.take k = ys.take k) (fun i _ => n - (intOf i).toNat)
    case atStart => exact ⟨0, 0, by omega, rfl, rfl, rfl⟩
    case round =>
      obtain ⟨k, d, hk, rfl, rfl, ht⟩ := hrel
      have Ht := Lib.hid ht
      clear ht
      by_cases hlt : k < n
      · obtain ⟨ad, hkx, rfl, hc⟩ := hv.at_ hlt
        obtain ⟨ad', hky, rfl, hc'⟩ := hu.at_ hlt
        by_cases he : xs[k] = ys[k]
        · have hb : (xs[k] != ys[k]) = false := by simp [he]
          have He := Lib.hid he
          clear he
          go_wp2
          go_quiet (fail)
          go_wp2
          exact ⟨⟨k + 1, d + nq, by omega, by go_num, rfl, take_succ_eq hkx hky Ht.out He.out⟩, by simp [intOf]; omega⟩
        · have hb : (xs[k] != ys[k]) = true := by
            rw [bne_iff_ne]; exact he
          have hne := ne_of_at hkx hky he
          have He := Lib.hid (show (xs == ys) = false by simpa using hne)
          clear he hne
          go_wp2
          go_quiet (fail)
          go_wp2
          go_ret
          exact ⟨retB He.out.symm, _, World.drewN_drewN _ _ _⟩
      · have He := Lib.hid (show (xs == ys) = true by
          have h1 := Ht.out
          rw [List.take_of_length_le (by rw [Hn.out]; omega), List.take_of_length_le (by rw [Hm.out]; omega)] at h1
          simp [h1])
        go_wp2
        go_ret
        exact ⟨retB He.out.symm, _, rfl⟩
  · have hb : ((n : Int) != (m : Int)) = true := by rw [bne_iff_ne]; omega
    have He := Lib.hid (show (xs == ys) = false by
      simp only [beq_eq_false_iff_ne]; rintro rfl; omega)
    clear hn hm hl
    go_enter Try.func29, Try.ntmps29
    go_wp2
    go_ret
    exact ⟨retB He.out.symm, 0, rfl⟩
set_option maxHeartbeats 400000 in
theorem heldIntS_any (v : Value) (k : Int) (n : Nat) (w : World) (hv : RdI w v (marksI k n)) (hn : n ≤ 4294967296) (hk : 0 ≤ k ∧ k ≤ 1099511627776) :
    Calls Try.prog 116 #[v, .int .i64 k] w fun e w' => e = .returned (.int .i64 (k + n)) ∧ w = w' := by
  obtain ⟨A, c, rfl⟩ := hv.slice
  rw [marksI_len] at *
  go_enter Try.func116, Try.ntmps116
  go_wp2
  go_loop [1, 5] (fun q i => ∃ j : Nat, j ≤ n ∧ i = .int .i64 j ∧ q = .int .i64 (k + j)) (fun _ i => n - (intOf i).toNat)
  case atStart => exact ⟨0, by omega, rfl, by simp⟩
  case round =>
    obtain ⟨j, hj, rfl, rfl⟩ := hrel
    by_cases hlt : j < n
    · obtain ⟨ad, hkx, rfl, hc⟩ := hv.at_ hlt
      rw [marksI_get] at hc
      go_wp2
      exact ⟨⟨j + 1, by omega, by go_num, congrArg _ (by omega)⟩, by simp [intOf]; omega⟩
    · have : j = n := by omega
      subst this
      go_wp2
      go_ret
      exact ⟨rfl, rfl⟩
set_option maxHeartbeats 400000 in
theorem markIntS_any (v : Value) (k : Int) (xs : List Int) (lo hi : Nat) (w : World) (hv : OwI w lo hi v xs) (hn : xs.length ≤ 4294967296) (hk : 0 ≤ k ∧ k ≤ 1099511627776) :
    Calls Try.prog 30 #[v, .int .i64 k] w fun e w' => e = .returned (.int .i64 (k + xs.length)) ∧ OwI w' lo hi v (marksI k xs.length) ∧ Fr lo hi w w' := by
  obtain ⟨A, c, rfl⟩ := hv.rd.slice
  generalize hl : xs.length = n at *
  have Hl := Lib.hid hl
  clear hl
  go_enter Try.func30, Try.ntmps30
  go_wp2
  go_loopw [1, 5] (fun q i w1 => ∃ j : Nat, j ≤ n ∧ i = .int .i64 j ∧ q = .int .i64 (k + j) ∧ OwI w1 lo hi (.slice A n c) (marksI k j ++ xs.drop j) ∧ Fr lo hi w w1) (fun _ i _ => n - (intOf i).toNat)
  case atStart => exact ⟨0, by omega, rfl, by simp, by simpa [marksI] using hv, Fr.refl _ _ _⟩
  case round =>
    obtain ⟨j, hj, rfl, rfl, ho, hf⟩ := hrel
    by_cases hlt : j < n
    · obtain ⟨g, rfl, hg1, hg2, hg3⟩ := ho.form (by omega)
      obtain ⟨x, hc⟩ := ho.cellAt hlt
      have hz := ho.frozenAt j
      obtain ⟨h1, h2⟩ := ho.store (j := j) (k + (j : Int))
      rw [marksI_set k j xs _ (by rw [Hl.out]; exact hlt) rfl] at h1
      go_wp2
      exact ⟨⟨j + 1, by omega, by go_num, congrArg _ (by omega), h1, hf.trans h2⟩, by simp [intOf]; omega⟩
    · have : j = n := by omega
      subst this
      have ho' : OwI wr lo hi (.slice A j c) (marksI k j) := by
        have h0 := ho
        rw [List.drop_of_length_le (by rw [Hl.out]; omega), List.append_nil] at h0
        exact h0
      go_wp2
      go_ret
      exact ⟨rfl, ho', hf⟩
set_option maxHeartbeats 400000 in
theorem toIntS_any (v : Value) (xs : List Int) (w : World) (hv : RdI w v xs) (hn : xs.length ≤ 4294967296) :
    Calls Try.prog 26 #[v] w fun e w' => ∃ v', e = .returned v' ∧ OwI w' w.heap.size w'.heap.size v' xs ∧ Below w.heap.size w w' := by
  obtain ⟨i0, hi0, hz0, hz1, hz2⟩ := info_parts info_int
  obtain ⟨A, c, rfl⟩ := hv.slice
  generalize hl : xs.length = n at *
  have Hl := Lib.hid hl
  have Hv := Lib.hid hv
  clear hl hv
  go_enter Try.func26, Try.ntmps26
  go_wp2_with (at_make; refine wpList_make_full _ rfl _ _ 35 rfl w.heap.size 3 i0 _ 1 Try.underlying35 hi0 hz0 hz1 _ _ _ _ n rfl rfl rfl rfl (by rw [hz2]; omega) (by unfold maxLen; omega) (Nat.le_refl _) ?_; intro w1 h1 h2)
  have O1 := Lib.hid (OwI.made h1)
  have B1 := Lib.hid ((Below.refl w.heap.size w).grown h2 (Nat.le_refl _) (by simp))
  clear h1 h2
  go_loopw [4] (fun i w2 => ∃ j : Nat, j ≤ n ∧ i = .int .i64 j ∧ OwI w2 w.heap.size w1.heap.size (.slice (some ⟨w.heap.size, 0, none⟩) n n) (xs.take j ++ List.replicate (xs.length - j) 0) ∧ Below w.heap.size w w2) (fun i _ => n - (intOf i).toNat)
  case atStart => exact ⟨0, by omega, rfl, by simpa [Hl.out] using O1.out, B1.out⟩
  case round =>
    obtain ⟨j, hj, rfl, ho, hb⟩ := hrel
    have Ho := Lib.hid ho
    have Hb := Lib.hid hb
    clear ho hb
    by_cases hlt : j < n
    · obtain ⟨ad, hk, rfl, hc⟩ := (Hv.out.below Hb.out).at_ hlt
      have hz := Ho.out.frozenAt j
      obtain ⟨x, hc2⟩ := Ho.out.cellAt hlt
      obtain ⟨h1, h2⟩ := Ho.out.store (j := j) xs[j]
      rw [replicate_setI xs j hk] at h1
      have H1 := Lib.hid h1
      have H2 := Lib.hid (Hb.out.trans (h2.below (Nat.le_refl _) Hb.out.size))
      clear h1 h2
      go_wp2
      exact ⟨⟨j + 1, by omega, by go_num, H1.out, H2.out⟩, by simp [intOf]; omega⟩
    · have : j = n := by omega
      subst this
      go_wp2
      go_ret
      refine ⟨_, rfl, ?_, Hb.out⟩
      have h := Ho.out
      rw [List.take_of_length_le (by rw [Hl.out]; omega), Hl.out, Nat.sub_self, List.replicate_zero, List.append_nil] at h
      exact ⟨h.1, fun k hk => (h.1.lt k hk).2⟩


end Go.Proofs.Ythdjjgbjemaabaa
