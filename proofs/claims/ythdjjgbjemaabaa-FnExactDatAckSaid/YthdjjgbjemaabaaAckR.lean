/-
  Runs of the bits that were seen. (Written by wip/tools/genack.py.)
-/
import Derived.Test.YthdjjgbjemaabaaAckM
namespace Go.Proofs.Ythdjjgbjemaabaa
open Go.ChangeShapes Go.WideShapes Go.ChangeAt Go.RowKit
set_option linter.unusedVariables false
set_option linter.unusedSimpArgs false

theorem has_at (s : BitVec 32) (n : Nat) (i : Int) (w : World) (hi : i = (n : Int)) : Calls Try.prog 274 #[.int .u32 (bvI s), .int .i64 i] w fun e w' => e = .returned (.bool (s.getLsbD n)) ∧ w = w' := by
  subst hi; exact has_any s n w
set_option maxRecDepth 100000 in
set_option maxHeartbeats 4000000 in
theorem runs_n (s : BitVec 32) (ns : List Int) (w : World) (hs : ns.Pairwise (· < ·)) (hb : ∀ n ∈ ns, 2 ≤ n ∧ n ≤ 16) (hbit : ∀ k : Nat, s.getLsbD k = decide ((k : Int) ∈ ns)) : Calls Try.prog 199 #[.int .u32 (bvI s)] w fun e w' => ∃ v f, e = .returned v ∧ OwL 223 2 EFrmGap w' f v (runsF ns) ∧ Nw w.heap.size w'.heap.size f ∧ Below w.heap.size w w' := by
  have Hs := Lib.hid hs
  have Hbit := Lib.hid hbit
  have Hall := Lib.hid (runsTo_all (ns := ns) (j := 17) (fun n hn => by have := hb n hn; omega))
  have Hz := Lib.hid (runsTo_none (ns := ns) (j := 1) (fun n hn => by have := hb n hn; omega))
  have Hlen := Lib.hid (show ∀ j : Nat, j ≤ 17 → (runsTo ns (j : Int)).length ≤ 17 from fun j hj => by
    have h : ∀ m : Nat, (runsTo ns (m : Int)).length ≤ m := by
      intro m
      induction m with
      | zero => rw [runsTo_none (fun n hn => by have := hb n hn; omega)]; simp
      | succ m ih =>
        by_cases hm : (m : Int) ∈ ns
        · have h1 := runsTo_yes hs hm
          have h2 := (ackStep_len (runsTo ns m) m).2
          rw [show ((m + 1 : Nat) : Int) = (m : Int) + 1 by omega, h1]; omega
        · rw [show ((m + 1 : Nat) : Int) = (m : Int) + 1 by omega, runsTo_no hs hm]; omega
    have := h j; omega)
  clear hs hb hbit
  go_enter Try.func199, Try.ntmps199
  go_wp2
  go_loopw [3, 4] (fun q i w1 => ∃ (m : Nat) (f : List Nat), m ≤ 16 ∧ i = .int .i64 ((m : Int) + 1) ∧ OwL 223 2 EFrmGap w1 f q (runsTo ns ((m : Int) + 1)) ∧ Nw w.heap.size w1.heap.size f ∧ Below w.heap.size w w1) (fun _ i _ => 17 - (intOf i).toNat)
  case atStart => exact ⟨0, [], by omega, rfl, by have h := Hz.out; simp only [Int.natCast_zero, Int.zero_add]; rw [h]; exact OwL.nil w, Nw.nil _ _, Below.refl _ _⟩
  case round =>
    obtain ⟨m, f, hm, rfl, ho, hnw, hb⟩ := hrel
    have Ho := Lib.hid ho
    have Hn := Lib.hid hnw
    have HB := Lib.hid hb
    obtain ⟨QA, qc, rfl⟩ := OwL.slice ho
    clear ho hnw hb
    by_cases hlt : m < 16
    · have Hl := Lib.hid (Hlen.out (m + 1) (by omega))
      have Hno := Lib.hid (fun h : ((m : Int) + 1) ∉ ns => runsTo_no Hs.out h)
      have Hon := Lib.hid (fun (h : ((m : Int) + 1) ∈ ns) (h0 : (m : Int) ∈ ns) => runsTo_on Hs.out h (show (m : Int) + 1 - 1 ∈ ns by rw [show (m : Int) + 1 - 1 = m by omega]; exact h0))
      have Hnew := Lib.hid (fun (h : ((m : Int) + 1) ∈ ns) (h0 : (m : Int) ∉ ns) => runsTo_new Hs.out h (show (m : Int) + 1 - 1 ∉ ns by rw [show (m : Int) + 1 - 1 = m by omega]; exact h0))
      have hc1 : ((m + 1 : Nat) : Int) = (m : Int) + 1 := by omega
      have Hl' := Lib.hid (show (runsTo ns ((m : Int) + 1)).length ≤ 17 by have h := Hl.out; rwa [hc1] at h)
      clear Hl
      rcases hb1 : s.getLsbD (m + 1) with _ | _
      · have hin : ((m : Int) + 1) ∉ ns := by have h := Hbit.out (m + 1); rw [hb1, hc1] at h; simpa using h
        have He := Lib.hid (Hno.out hin)
        have Hb1 := Lib.hid hb1
        clear hin hb1 Hno Hon Hnew
        generalize runsTo ns ((m : Int) + 1) = gs at *
        go_wp2_with (go_at_call 274; refine (has_at s (m + 1) _ _ (by omega)).mono ?_; rintro e w' ⟨rfl, rfl⟩; rw [Hb1.out])
        exact ⟨⟨m + 1, f, by omega, by go_num, by rw [hc1, He.out]; exact Ho.out, Hn.out, HB.out⟩, by simp [intOf]; omega⟩
      · have hin : ((m : Int) + 1) ∈ ns := by have h := Hbit.out (m + 1); rw [hb1, hc1] at h; simpa using h
        have Hb1 := Lib.hid hb1
        clear hb1
        rcases hb0 : s.getLsbD m with _ | _
        · have hin0 : (m : Int) ∉ ns := by have h := Hbit.out m; rw [hb0] at h; simpa using h
          have He := Lib.hid (Hnew.out hin hin0)
          have Hb0 := Lib.hid hb0
          clear hb0 hin hin0 Hno Hon Hnew
          generalize runsTo ns ((m : Int) + 1) = gs at *
          have b5 := (Below.refl wr.heap.size wr).alloc (Nat.le_refl _) (.cells #[.int .i64 ((m : Int) + 1), .int .i64 ((m : Int) + 1)] 223)
          have O5 := Lib.hid (Ho.out.below EFrmGap.framed EFrmGap.inside b5)
          have N5 := Lib.hid (Hn.out.mono (Nat.le_refl _) b5.size)
          have KN := Lib.hid (Blk.new (w := wr) (b := wr.heap.size) #[.int .i64 ((m : Int) + 1), .int .i64 ((m : Int) + 1)] 223 rfl)
          have L5 := Lib.hid (Nat.le_trans HB.out.size b5.size)
          have B5 := Lib.hid (HB.out.trans (b5.mono HB.out.size))
          have Hlen1 := Lib.hid (show gs.length + [(⟨(m : Int) + 1, (m : Int) + 1⟩ : DFrmGap)].length ≤ 1073741824 by have h := Hl'.out; simp; omega)
          clear b5
          go_wp2_with (first | (go_at_call 274; first | (refine (has_at s (m + 1) _ _ (by omega)).mono ?_; rintro e w' ⟨rfl, rfl⟩; rw [Hb1.out]) | (refine (has_at s m _ _ (by omega)).mono ?_; rintro e w' ⟨rfl, rfl⟩; rw [Hb0.out])) | (at_builtin; go_loud (refine wpList_push (lo := w.heap.size) (a := ⟨wr.heap.size, 0, none⟩) (c := 1) (ys := [⟨(m : Int) + 1, (m : Int) + 1⟩]) EFrmGap.framed EFrmGap.inside elemFrmGap _ rfl (.tmp 30) (.tmp 34) rfl rfl rfl O5.out N5.out L5.out (Els.one (f := []) ⟨rfl, rfl⟩ rfl) (Nw.nil _ _) (by simp) (fun i u hu => by rw [add_zero_blk]; exact KN.out.at hu) (by simp [Value.oneCell']) Hlen1.out ?_)))
          intro v' w6 f6 h1 h2 h3 _
          have bb : Below w.heap.size (wr.alloc (.cells #[.int .i64 ((m : Int) + 1), .int .i64 ((m : Int) + 1)] 223)) w6 := (Below.refl _ _).grown h3 L5.out (fun k hk' => (N5.out.2 k (O5.out.own_mem k (by simp [hk']))).1)
          have H1 := Lib.hid h1
          have H2' := Lib.hid h2
          have B6 := Lib.hid (B5.out.trans bb)
          clear h1 h2 h3 bb
          go_wp2
          exact ⟨⟨m + 1, f6, by omega, by go_num, by rw [hc1, He.out]; exact H1.out, H2'.out, B6.out⟩, by simp [intOf]; omega⟩
        · have hin0 : (m : Int) ∈ ns := by have h := Hbit.out m; rw [hb0] at h; simpa using h
          obtain ⟨k, y, hkm, hy, he⟩ := Hon.out hin hin0
          have He := Lib.hid he
          have Hy := Lib.hid hy
          have Hb0 := Lib.hid hb0
          clear hb0 hin hin0 Hno Hon Hnew he hy
          generalize runsTo ns ((m : Int) + 1) = gs at *
          have hk17 : k ≤ 16 := by have := Hl'.out; omega
          rw [hkm] at Ho ⊢
          obtain ⟨gb, rfl⟩ := Ho.out.form0 (by omega)
          obtain ⟨hcell, hfrz, hgf, hset⟩ := OwFrmGapS.setTo Ho.out Hn.out.1 (show k < k + 1 by omega) Hy.out
          have Hset := Lib.hid hset
          have hfz := hfrz (k * 2 + 1)
          have Hgb := Lib.hid (show w.heap.size ≤ gb from (Hn.out.2 gb hgf).1)
          clear hset hfrz hgf
          have hcast : ((k + 1 : Nat) : Int) - 1 = (k : Int) := by omega
          have hcast2 : (k : Int) + 1 - 1 = (k : Int) := by omega
          have hx1 : (k : Int) < (k : Int) + 1 := by omega
          have hw1 : IntKind.i64.wrap ((k : Int) + 1 - 1) = k := by rw [IntWalk.i64_in _ (by omega)]; omega
          have hw2 : IntKind.i64.wrap (k : Int) = k := by rw [IntWalk.i64_in _ (by omega)]
          go_wp2_with (go_at_call 274; first | (refine (has_at s (m + 1) _ _ (by omega)).mono ?_; rintro e w' ⟨rfl, rfl⟩; rw [Hb1.out]) | (refine (has_at s m _ _ (by omega)).mono ?_; rintro e w' ⟨rfl, rfl⟩; rw [Hb0.out]))
          refine ⟨⟨m + 1, f, by omega, by go_num, by rw [hc1, He.out]; exact Hset.out ((m : Int) + 1), ?_, ?_⟩, by simp [intOf]; omega⟩
          · have h := Hn.out; simpa [size_set] using h
          · exact HB.out.setCell (by have := Hgb.out; simp; omega) _
    · have : m = 16 := by omega
      subst this
      have ho := Ho.out
      have ha : runsTo ns (((16 : Nat) : Int) + 1) = runsF ns := Hall.out
      have Ha := Lib.hid ha
      clear ha Ho
      generalize (runsTo ns (((16 : Nat) : Int) + 1)).length = ll at *
      rw [Ha.out] at ho
      have Ho := Lib.hid ho
      clear ho
      go_wp2
      go_ret
      exact ⟨_, f, rfl, Ho.out, Hn.out, HB.out⟩
end Go.Proofs.Ythdjjgbjemaabaa
