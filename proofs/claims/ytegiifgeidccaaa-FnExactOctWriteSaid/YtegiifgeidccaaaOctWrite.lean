/-
  The contracts of OctWrite, of the program and of the model.
-/
import Derived.Test.YtegiifgeidccaaaOctPut
import Derived.Test.YtegiifgeidccaaaTlv
import Derived.Test.YtegiifgeidccaaaAppZ
namespace Go.Proofs.Ytegiifgeidccaaa
open Go.ChangeShapes Go.WideShapes Go.ChangeAt Go.RowKit
set_option linter.unusedVariables false

/-- How many zeros fill up. -/
def padN (n : Nat) : Nat := (4 - n % 4) % 4
theorem padN_le (n : Nat) : padN n ≤ 3 := by unfold padN; omega
set_option maxHeartbeats 400000 in
theorem l2Pad_any (n : Nat) (w : World) (hn : n ≤ 4294967296) : Calls Try.prog 22 #[.int .i64 n] w fun e w' => e = .returned (.int .i64 (padN n : Nat)) ∧ w = w' := by
  go_enter Try.func22, Try.ntmps22
  go_wp2
  go_ret
  exact ⟨retI (by unfold padN; omega), rfl⟩
set_option maxHeartbeats 400000 in
theorem octFill_any (n : Nat) (w : World) (hn : n ≤ 4294967296) : Calls Try.prog 25 #[.int .i64 n] w fun e w' => e = .returned (.int .i64 (padN n : Nat)) ∧ w = w' := by
  go_enter Try.func25, Try.ntmps25
  go_wp2
  go_ret
  exact ⟨retI (by unfold padN; omega), rfl⟩

/-- One kind and body, written. -/
def oneT (x : Tlv) : List UInt8 := be x.kind.toNat 2 ++ be (4 + x.body.length) 2 ++ x.body ++ List.replicate (padN x.body.length) 0
def okT (x : Tlv) : Bool := decide (0 ≤ x.kind) && decide (x.kind ≤ 65535) && decide (x.body.length ≤ 64)
theorem okT_iff {x : Tlv} : okT x = true ↔ 0 ≤ x.kind ∧ x.kind ≤ 65535 ∧ x.body.length ≤ 64 := by simp [okT, and_assoc]
theorem okT_not {x : Tlv} : okT x = false ↔ (x.kind < 0 ∨ 65535 < x.kind ∨ 64 < x.body.length) := by
  rw [← Bool.not_eq_true, okT_iff]; omega
theorem oneT_len {x : Tlv} (h : okT x = true) : (oneT x).length ≤ 72 := by
  have := okT_iff.1 h
  have := padN_le x.body.length
  simp only [oneT, List.length_append, be_len, List.length_replicate]; omega
theorem flat_len {l : List Tlv} (h : ∀ x ∈ l, okT x = true) : (l.flatMap oneT).length ≤ 72 * l.length := by
  induction l with
  | nil => simp
  | cons x l ih =>
    have h1 := oneT_len (h x (by simp))
    have h2 := ih (fun y hy => h y (by simp [hy]))
    simp only [List.flatMap_cons, List.length_append, List.length_cons]; omega
/-- OctWrite. -/
def writeF (xs : List Tlv) : List UInt8 × Int := if 8 < xs.length then ([], 1) else if ∀ x ∈ xs, okT x = true then (xs.flatMap oneT, 0) else ([], 2)
theorem writeF_many {xs : List Tlv} (h : 8 < xs.length) : writeF xs = ([], 1) := by simp [writeF, h]
theorem writeF_yes {xs : List Tlv} (h : ¬ 8 < xs.length) (h2 : ∀ x ∈ xs, okT x = true) : writeF xs = (xs.flatMap oneT, 0) := by rw [writeF, if_neg h, if_pos h2]
theorem writeF_no {xs : List Tlv} (h : ¬ 8 < xs.length) {j : Nat} (hj : j < xs.length) (h2 : okT xs[j] = false) : writeF xs = ([], 2) := by
  rw [writeF, if_neg h, if_neg (fun h3 => by have := h3 _ (List.getElem_mem hj); rw [h2] at this; cases this)]
theorem writeF_len (xs : List Tlv) : (writeF xs).1.length ≤ 1000 := by
  unfold writeF; split
  · simp
  · split
    · rename_i h1 h2; have := flat_len h2; simp only; omega
    · simp
theorem flat_succ {xs : List Tlv} {j : Nat} (h : j < xs.length) : (xs.take (j + 1)).flatMap oneT = (xs.take j).flatMap oneT ++ be xs[j].kind.toNat 2 ++ be (4 + xs[j].body.length) 2 ++ xs[j].body ++ List.replicate (padN xs[j].body.length) 0 := by
  rw [List.take_succ_eq_append_getElem h, List.flatMap_append]
  simp [oneT, List.append_assoc]
theorem all_succ {xs : List Tlv} {j : Nat} (h : j < xs.length) (h1 : ∀ x ∈ xs.take j, okT x = true) (h2 : okT xs[j] = true) : ∀ x ∈ xs.take (j + 1), okT x = true := by
  rw [List.take_succ_eq_append_getElem h]
  intro x hx
  rcases List.mem_append.1 hx with h | h
  · exact h1 x h
  · rw [List.mem_singleton.1 h]; exact h2

theorem put2 {k : Int} (h0 : 0 ≤ k) (h1 : k ≤ 65535) : putF k 2 = be k.toNat 2 := putF_yes (by simp [topL2]; omega)
theorem put2n {n : Nat} (h : n ≤ 64) : putF (4 + (n : Int)) 2 = be (4 + n) 2 := by
  rw [put2 (by omega) (by omega)]; congr 1
/-- What an answer of OctWrite is. -/
def WrPost (w : World) (xs : List Tlv) (e : Ending) (w' : World) : Prop := ∃ v, e = .returned (.tuple #[v, .int .i64 (writeF xs).2]) ∧ OwB w' w.heap.size w'.heap.size v (writeF xs).1 ∧ Below w.heap.size w w'
theorem WrPost.mk' {w w' : World} {xs : List Tlv} {v : Value} {l : List UInt8} {c : Int} (h : writeF xs = (l, c)) (ho : OwB w' w.heap.size w'.heap.size v l) (hb : Below w.heap.size w w') : WrPost w xs (.returned (.tuple #[v, .int .i64 c])) w' :=
  ⟨v, by rw [h], by rw [h]; exact ho, hb⟩
/-- The element's cells, in whatever world that has turned nothing old. -/
theorem tlv_cells {w : World} {A : Option Addr} {n c j : Nat} {xs : List Tlv} (hv : RdS 2 FTlv w (.slice A n c) xs) (hlt : j < n) :
    ∃ ad u, ∃ hk : j < xs.length, A = some ad ∧ ∀ w', Below w.heap.size w w' → w'.cell? (ad.add (j * 2)) = some (.int .i64 xs[j].kind) ∧ w'.cell? ⟨(ad.add (j * 2)).block, (ad.add (j * 2)).off + 1, none⟩ = some u ∧ RdB w' u xs[j].body := by
  obtain ⟨ad, cs, hk, rfl, hcl, hca, u, rfl, hu⟩ := hv.at_ hlt
  refine ⟨ad, u, hk, rfl, fun w' hb => ?_⟩
  have h1 := hca.below hb
  exact ⟨h1.c0, h1.ci 0 rfl, hu.below hb⟩
theorem OwB.grownB {B : Nat} {w w1 w' : World} {u : Value} {xs : List UInt8} (hb : Below B w w1) (ho : OwB w1 B w1.heap.size u xs) (hg : w1.grownBy w' u.ownBlock) (hs : B ≤ w.heap.size) : Below B w w' :=
  hb.grown hg (Nat.le_trans hs hb.size) (fun k hk => (ho.1.lt k hk).1)

set_option maxRecDepth 100000 in
set_option maxHeartbeats 1000000 in
theorem specWrite_any (v : Value) (xs : List Tlv) (w : World) (hv : RdS 2 FTlv w v xs) : Calls Try.prog 6 #[v] w (WrPost w xs) := by
  obtain ⟨A, c, rfl⟩ := hv.slice
  have hcv := hv.cap
  have Hv := Lib.hid hv
  clear hv
  generalize hl : xs.length = n at *
  have Hl := Lib.hid hl
  clear hl
  by_cases h8 : 8 < n
  · have Hw := Lib.hid (writeF_many (xs := xs) (by rw [Hl.out]; exact h8))
    go_enter Try.func6, Try.ntmps6
    go_wp2
    go_ret2
    exact WrPost.mk' Hw.out (OwB.lit w _ [] 0 _ rfl rfl (by decide) (Nat.le_refl _)) ((Below.refl _ _).alloc (Nat.le_refl _) _)
  · have Hn := Lib.hid (show ¬ 8 < xs.length by rw [Hl.out]; exact h8)
    go_enter Try.func6, Try.ntmps6
    go_wp2
    go_loopw [4, 5] (fun u i w1 => ∃ j : Nat, j ≤ n ∧ i = .int .i64 j ∧ (∀ x ∈ xs.take j, okT x = true) ∧ OwB w1 w.heap.size w1.heap.size u ((xs.take j).flatMap oneT) ∧ Below w.heap.size w w1) (fun _ i _ => n - (intOf i).toNat)
    case atStart => exact ⟨0, by omega, rfl, by simp, by simpa using OwB.lit w _ [] 0 _ rfl rfl (by decide) (Nat.le_refl _), (Below.refl _ _).alloc (Nat.le_refl _) _⟩
    case round =>
      obtain ⟨j, hj, rfl, hall, ho, hb⟩ := hrel
      have Ha := Lib.hid hall
      have Ho := Lib.hid ho
      have Hb := Lib.hid hb
      clear hall ho hb
      by_cases hlt : j < n
      · obtain ⟨ad, u, hk, rfl, hK⟩ := tlv_cells Hv.out hlt
        have HK := Lib.hid hK
        clear hK
        by_cases hok : okT xs[j] = true
        · have hok' := okT_iff.1 hok
          have Hall := Lib.hid (all_succ hk Ha.out hok)
          have Hfs := Lib.hid (flat_succ hk)
          have hfl := flat_len Ha.out
          rw [List.length_take, Nat.min_eq_left (by omega)] at hfl
          have hi : inB xs[j].kind 0 65535 = true := by rw [inB_iff]; omega
          clear hok
          obtain ⟨c0, c1, ru⟩ := HK.out _ Hb.out
          obtain ⟨A', c', rfl⟩ := ru.slice
          clear ru
          generalize xs[j].kind = kd at *
          generalize xs[j].body = bd at *
          generalize (xs.take j).flatMap oneT = ot at *
          go_wp2_with fail
          refine (l1In_any _ _ _ _).mono ?_
          rintro e w' ⟨rfl, rfl⟩
          rw [hi]
          clear hi
          obtain ⟨k0, k1, k2⟩ := hok'
          go_wp2_with fail
          refine (specPut_any _ _ _).mono ?_
          rintro e w2 ⟨v2, rfl, o2, b2⟩
          have O2 := Lib.hid (o2.rd)
          have U2 := Lib.hid ((Ho.out.below b2 (Nat.le_refl _)).mono b2.size)
          have B2 := Lib.hid (Hb.out.trans (b2.mono Hb.out.size))
          clear o2 b2 c0 c1 Ho Hb
          obtain ⟨c0, c1, ru⟩ := HK.out _ B2.out
          clear ru
          go_wp2_with (at_builtin; refine wpList_appB _ rfl (.tmp 34) (.tmp 40) rfl rfl rfl U2.out O2.out ?_ ?_ ?_)
          · rw [put2 k0 k1, be_len]; omega
          · exact B2.out.size
          intro v3 w3 o3 _ g3
          have B3 := Lib.hid (U2.out.grownB B2.out g3 (Nat.le_refl _))
          have O3 := Lib.hid o3
          clear o3 g3 c0 c1 U2 O2 B2
          obtain ⟨c0, c1, ru⟩ := HK.out _ B3.out
          clear ru
          go_wp2_with fail
          refine (specPut_any _ _ _).mono ?_
          rintro e w4 ⟨v4, rfl, o4, b4⟩
          have O4 := Lib.hid (o4.rd)
          have U4 := Lib.hid ((O3.out.below b4 (Nat.le_refl _)).mono b4.size)
          have B4 := Lib.hid (B3.out.trans (b4.mono B3.out.size))
          clear o4 b4 c0 c1 O3 B3
          go_wp2_with (at_builtin; refine wpList_appB _ rfl (.tmp 42) (.tmp 50) rfl rfl rfl U4.out O4.out ?_ ?_ ?_)
          · rw [put2 k0 k1, put2n k2, List.length_append, be_len, be_len]; omega
          · exact B4.out.size
          intro v5 w5 o5 _ g5
          have B5 := Lib.hid (U4.out.grownB B4.out g5 (Nat.le_refl _))
          have O5 := Lib.hid o5
          clear o5 g5 U4 O4 B4
          obtain ⟨c0, c1, ru⟩ := HK.out _ B5.out
          have Ru := Lib.hid ru
          clear ru
          go_wp2_with (at_builtin; refine wpList_appB _ rfl (.tmp 52) (.tmp 57) rfl rfl rfl O5.out Ru.out ?_ ?_ ?_)
          · rw [put2 k0 k1, put2n k2, List.length_append, List.length_append, be_len, be_len]; omega
          · exact B5.out.size
          intro v6 w6 o6 _ g6
          have B6 := Lib.hid (O5.out.grownB B5.out g6 (Nat.le_refl _))
          have O6 := Lib.hid o6
          clear o6 g6 O5 B5 Ru c0 c1
          obtain ⟨c0, c1, ru⟩ := HK.out _ B6.out
          clear ru
          go_wp2_with fail
          refine (l2Pad_any _ _ (by omega)).mono ?_
          rintro e w' ⟨rfl, rfl⟩
          have hpl := padN_le bd.length
          generalize hpd : padN bd.length = pd at *
          have Hpd := Lib.hid hpd
          clear hpd
          go_wp2_with (at_builtin; refine wpList_appZ _ rfl (.tmp 59) (.tmp 66) rfl pd rfl rfl O6.out (by omega) ?_ ?_ ?_)
          · rw [put2 k0 k1, put2n k2]; simp only [List.length_append, be_len]; omega
          · exact B6.out.size
          intro v7 w7 o7 _ g7
          have B7 := Lib.hid (O6.out.grownB B6.out g7 (Nat.le_refl _))
          have O7 := Lib.hid (show OwB w7 w.heap.size w7.heap.size v7 ((xs.take (j + 1)).flatMap oneT) by
            rw [Hfs.out, ← put2 k0 k1, ← put2n k2]; simpa only [List.append_assoc] using o7)
          clear o7 g7 O6 B6 c0 c1
          go_wp2
          exact ⟨⟨j + 1, by omega, by go_num, Hall.out, O7.out, B7.out⟩, by simp [intOf]; omega⟩
        · have hok2 : okT xs[j] = false := by simpa using hok
          have hn := okT_not.1 hok2
          have Hw := Lib.hid (writeF_no Hn.out hk hok2)
          clear hok hok2
          obtain ⟨c0, c1, ru⟩ := HK.out _ Hb.out
          obtain ⟨A', c', rfl⟩ := ru.slice
          clear ru HK
          by_cases hi : inB xs[j].kind 0 65535 = true
          · have hi2 := inB_iff.1 hi
            generalize xs[j].kind = kd at *
            generalize xs[j].body = bd at *
            have hbl : 64 < bd.length := by omega
            go_wp2_with fail
            refine (l1In_any _ _ _ _).mono ?_
            rintro e w' ⟨rfl, rfl⟩
            rw [hi]
            clear hi hi2 hn
            go_wp2
            go_ret2
            exact WrPost.mk' Hw.out (OwB.lit _ _ [] 0 _ rfl rfl (by decide) Hb.out.size) (Hb.out.alloc Hb.out.size _)
          · have hi2 : inB xs[j].kind 0 65535 = false := by simpa using hi
            generalize xs[j].kind = kd at *
            generalize xs[j].body = bd at *
            go_wp2_with fail
            refine (l1In_any _ _ _ _).mono ?_
            rintro e w' ⟨rfl, rfl⟩
            rw [hi2]
            clear hi hi2 hn
            go_wp2
            go_ret2
            exact WrPost.mk' Hw.out (OwB.lit _ _ [] 0 _ rfl rfl (by decide) Hb.out.size) (Hb.out.alloc Hb.out.size _)
      · have : j = n := by omega
        subst this
        have Hw := Lib.hid (writeF_yes Hn.out (fun x hx => Ha.out x (by rw [List.take_of_length_le (by rw [Hl.out]; omega)]; exact hx)))
        have O := Lib.hid (show OwB wr w.heap.size wr.heap.size u4 (xs.flatMap oneT) by
          have h := Ho.out
          rw [List.take_of_length_le (by rw [Hl.out]; omega)] at h
          exact h)
        go_wp2
        go_ret2
        exact WrPost.mk' Hw.out O.out Hb.out

theorem octAppend_own (v : Value) (n s : Int) (lo : Nat) (xs : List UInt8) (w : World) (hv : OwB w lo w.heap.size v xs) (hn : 0 ≤ n ∧ n ≤ 4294967295) (hs : 0 ≤ s ∧ s ≤ 4) (hx : xs.length ≤ 4294967296) (hlo : lo ≤ w.heap.size) :
    Calls Try.prog 24 #[v, .int .i64 n, .int .i64 s] w fun e w' => ∃ v', e = .returned v' ∧ OwB w' lo w'.heap.size v' (xs ++ be n.toNat s.toNat) ∧ (∀ k, v'.ownBlock = some k → v.ownBlock = some k ∨ w.heap.size ≤ k) ∧ FrL v.ownBlock.toList w w' := by
  cases hg : v.ownBlock with
  | none =>
    have ho : OwB w w.heap.size w.heap.size v xs := by
      refine ⟨⟨hv.1.1, ?_⟩, fun k hk => by rw [hg] at hk; cases hk⟩
      rcases hv.1.2 with h | ⟨g, cap, cur, rfl, _⟩
      · exact .inl h
      · simp [Value.ownBlock] at hg
    refine (octAppend_int v n s _ _ xs w ho hn hs hx (Nat.le_refl _) (Nat.le_refl _)).mono ?_
    rintro e w' ⟨v', rfl, h1, h2, h3⟩
    exact ⟨v', rfl, ⟨row_mono h1.1 hlo, h1.2⟩, fun k hk => .inr (by have := (h1.1.lt k hk).1; omega), ⟨h3.os, h3.tape, h3.output, h3.size, fun k hk' _ => h3.block k hk' (.inl hk')⟩⟩
  | some g =>
    have hgl := hv.1.lt g hg
    have ho : OwB w g (g + 1) v xs := by
      refine ⟨⟨hv.1.1, ?_⟩, fun k hk => by rw [hg] at hk; injection hk with hk; omega⟩
      rcases hv.1.2 with h | ⟨g', cap, cur, rfl, _, rest⟩
      · exact .inl h
      · simp [Value.ownBlock] at hg
        subst hg
        exact .inr ⟨_, cap, cur, rfl, Nat.le_refl _, rest⟩
    refine (octAppend_int v n s _ _ xs w ho hn hs hx (by omega) (by omega)).mono ?_
    rintro e w' ⟨v', rfl, h1, h2, h3⟩
    refine ⟨v', rfl, ⟨row_mono h1.1 hgl.1, h1.2⟩, fun k hk => ?_, FrL.of_fr h3⟩
    have h4 := h2 k hk
    have h5 := (h1.1.lt k hk).1
    rcases h4 with h4 | h4
    · exact .inl (by congr 1; omega)
    · exact .inr h4

/-- The bytes written so far, beside a block of the round's own. -/
structure Stg (w : World) (T : Nat) (k u : Value) (o : Value) (l : List UInt8) (w1 : World) : Prop where
  own : OwB w1 w.heap.size w1.heap.size o l
  apart : o.ownBlock ≠ some T
  c0 : w1.cell? ⟨T, 0, none⟩ = some k
  c1 : w1.cell? ⟨T, 1, none⟩ = some u
  below : Below w.heap.size w w1
  lt : T < w1.heap.size
theorem Stg.start {w w1 : World} {o k u : Value} {l : List UInt8} {t : TypeId} (ho : OwB w1 w.heap.size w1.heap.size o l) (hb : Below w.heap.size w w1) : Stg w w1.heap.size k u o l (w1.alloc (.cells #[k, u] t)) :=
  ⟨(ho.alloc _).mono (by simp), fun h => by have := ho.2 _ h; omega, by simp, by simp, hb.alloc hb.size _, by simp⟩
theorem Stg.step {w w1 w2 : World} {T : Nat} {k u o o' : Value} {l l' : List UInt8} (h : Stg w T k u o l w1) (hf : FrL o.ownBlock.toList w1 w2) (ho : OwB w2 w.heap.size w2.heap.size o' l') (hn : ∀ g, o'.ownBlock = some g → o.ownBlock = some g ∨ w1.heap.size ≤ g) : Stg w T k u o' l' w2 := by
  have hT : w2.heap[T]? = w1.heap[T]? := hf.block T h.lt (fun hm => h.apart (by simpa using hm))
  refine ⟨ho, fun he => ?_, (World.cell?_of_block (a := ⟨T, 0, none⟩) hT).trans h.c0, (World.cell?_of_block (a := ⟨T, 1, none⟩) hT).trans h.c1, h.below.trans (hf.below (fun g hg => (h.own.1.lt g (by simpa using hg)).1) h.below.size), Nat.lt_of_lt_of_le h.lt hf.size⟩
  rcases hn T he with h1 | h1
  · exact h.apart h1
  · have := h.lt; omega
theorem Stg.stepG {w w1 w2 : World} {T : Nat} {k u o o' : Value} {l l' : List UInt8} (h : Stg w T k u o l w1) (hg : w1.grownBy w2 o.ownBlock) (ho : OwB w2 w.heap.size w2.heap.size o' l') (hn : ∀ g, o'.ownBlock = some g → o.ownBlock = some g ∨ g = w1.heap.size) : Stg w T k u o' l' w2 :=
  h.step ⟨hg.os, hg.tape, hg.output, hg.size, fun b hb hm => hg.block b hb (fun e => hm (by simp [← e]))⟩ ho (fun g h1 => (hn g h1).imp id (fun e => by omega))

set_option maxRecDepth 100000 in
set_option maxHeartbeats 1000000 in
theorem implWrite_any (v : Value) (xs : List Tlv) (w : World) (hv : RdS 2 FTlv w v xs) : Calls Try.prog 8 #[v] w (WrPost w xs) := by
  obtain ⟨A, c, rfl⟩ := hv.slice
  have hcv := hv.cap
  have Hv := Lib.hid hv
  clear hv
  generalize hl : xs.length = n at *
  have Hl := Lib.hid hl
  clear hl
  by_cases h8 : 8 < n
  · have Hw := Lib.hid (writeF_many (xs := xs) (by rw [Hl.out]; exact h8))
    go_enter Try.func8, Try.ntmps8
    go_wp2
    go_ret2
    exact WrPost.mk' Hw.out (OwB.nil _ _ _) (Below.refl _ _)
  · have Hn := Lib.hid (show ¬ 8 < xs.length by rw [Hl.out]; exact h8)
    go_enter Try.func8, Try.ntmps8
    go_wp2
    go_loopw [4, 12] (fun u i w1 => ∃ j : Nat, j ≤ n ∧ i = .int .i64 j ∧ (∀ x ∈ xs.take j, okT x = true) ∧ OwB w1 w.heap.size w1.heap.size u ((xs.take j).flatMap oneT) ∧ Below w.heap.size w w1) (fun _ i _ => n - (intOf i).toNat)
    case atStart => exact ⟨0, by omega, rfl, by simp, by simpa using OwB.nil w _ _, Below.refl _ _⟩
    case round =>
      obtain ⟨j, hj, rfl, hall, ho, hb⟩ := hrel
      have Ha := Lib.hid hall
      have Ho := Lib.hid ho
      have Hb := Lib.hid hb
      clear hall ho hb
      by_cases hlt : j < n
      · obtain ⟨ad, u, hk, rfl, hK⟩ := tlv_cells Hv.out hlt
        have HK := Lib.hid hK
        clear hK
        by_cases hok : okT xs[j] = true
        · obtain ⟨k0, k1, k2⟩ := okT_iff.1 hok
          have Hall := Lib.hid (all_succ hk Ha.out hok)
          have Hfs := Lib.hid (flat_succ hk)
          have hfl := flat_len Ha.out
          rw [List.length_take, Nat.min_eq_left (by omega)] at hfl
          clear hok
          obtain ⟨c0, c1, ru⟩ := HK.out _ Hb.out
          obtain ⟨A', c', rfl⟩ := ru.slice
          clear ru
          generalize xs[j].kind = kd at *
          generalize xs[j].body = bd at *
          generalize (xs.take j).flatMap oneT = ot at *
          have S1 := Lib.hid (Stg.start (k := .int .i64 kd) (u := .slice A' bd.length c') (t := 50) Ho.out Hb.out)
          go_wp2_with fail
          refine (octAppend_own _ _ _ _ _ _ S1.out.own ⟨k0, by omega⟩ (by omega) (by omega) S1.out.below.size).mono ?_
          rintro e w2 ⟨v2, rfl, o2, n2, f2⟩
          have S2 := Lib.hid (S1.out.step f2 o2 n2)
          clear o2 n2 f2 c0 c1 S1 Ho Hb
          have t1 := S2.out.c1
          go_wp2_with fail
          refine (octAppend_own _ _ _ _ _ _ S2.out.own ⟨by omega, by omega⟩ (by omega) (by simp [be_len]; omega) S2.out.below.size).mono ?_
          rintro e w3 ⟨v3, rfl, o3, n3, f3⟩
          have S3 := Lib.hid (S2.out.step f3 o3 n3)
          clear o3 n3 f3 t1 S2
          have t1 := S3.out.c1
          obtain ⟨_, _, ru⟩ := HK.out _ S3.out.below
          have Ru := Lib.hid ru
          clear ru
          go_wp2_with (at_builtin; refine wpList_appB _ rfl (.tmp 40) (.tmp 42) rfl rfl rfl S3.out.own Ru.out ?_ ?_ ?_)
          · simp only [List.length_append, be_len]; simp; omega
          · exact S3.out.below.size
          intro v4 w4 o4 n4 g4
          have S4 := Lib.hid (S3.out.stepG g4 o4 n4)
          clear o4 n4 g4 t1 S3 Ru
          have t1 := S4.out.c1
          go_wp2_with fail
          refine (octFill_any _ _ (by omega)).mono ?_
          rintro e w' ⟨rfl, rfl⟩
          have hpl := padN_le bd.length
          generalize hpd : padN bd.length = pd at *
          have Hpd := Lib.hid hpd
          clear hpd
          go_wp2_with (at_builtin; refine wpList_appZ _ rfl (.tmp 44) (.tmp 48) rfl pd rfl rfl S4.out.own (by omega) ?_ ?_ ?_)
          · simp only [List.length_append, be_len]; omega
          · exact S4.out.below.size
          intro v5 w5 o5 n5 g5
          have S5 := Lib.hid (S4.out.stepG g5 o5 n5)
          have O5 := Lib.hid (show OwB w5 w.heap.size w5.heap.size v5 ((xs.take (j + 1)).flatMap oneT) by
            rw [Hfs.out]; have h := S5.out.own; rw [show (4 + (bd.length : Int)).toNat = 4 + bd.length by omega] at h; simpa only [List.append_assoc] using h)
          clear o5 n5 g5 t1 S4
          go_wp2
          exact ⟨⟨j + 1, by omega, by go_num, Hall.out, O5.out, S5.out.below⟩, by simp [intOf]; omega⟩
        · have hok2 : okT xs[j] = false := by simpa using hok
          have hn := okT_not.1 hok2
          have Hw := Lib.hid (writeF_no Hn.out hk hok2)
          clear hok hok2
          obtain ⟨c0, c1, ru⟩ := HK.out _ Hb.out
          obtain ⟨A', c', rfl⟩ := ru.slice
          clear ru HK
          have B2 := Lib.hid (fun o : Obj => Hb.out.alloc Hb.out.size o)
          generalize xs[j].kind = kd at *
          generalize xs[j].body = bd at *
          rcases hn with hn | hn | hn
          all_goals
            go_wp2
            all_goals
              go_ret2
              exact WrPost.mk' Hw.out (OwB.nil _ _ _) (B2.out _)
      · have : j = n := by omega
        subst this
        have Hw := Lib.hid (writeF_yes Hn.out (fun x hx => Ha.out x (by rw [List.take_of_length_le (by rw [Hl.out]; omega)]; exact hx)))
        have O := Lib.hid (show OwB wr w.heap.size wr.heap.size u4 (xs.flatMap oneT) by
          have h := Ho.out
          rw [List.take_of_length_le (by rw [Hl.out]; omega)] at h
          exact h)
        go_wp2
        go_ret2
        exact WrPost.mk' Hw.out O.out Hb.out
end Go.Proofs.Ytegiifgeidccaaa
