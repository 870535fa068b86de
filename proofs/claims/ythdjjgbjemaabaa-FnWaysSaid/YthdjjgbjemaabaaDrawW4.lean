/-
  The draw of ways and of a choice.
-/
import Derived.Test.YthdjjgbjemaabaaDrawW3
namespace Go.Proofs.Ythdjjgbjemaabaa
open Go.ChangeShapes Go.WideShapes Go.ChangeAt Go.RowKit Go.Maps
set_option linter.unusedVariables false
set_option linter.unusedSimpArgs false

def isW (p : Nat) (u : Value) : Prop := if p = 1 then ∃ b : Bool, u = .bool b else ∃ x : Int, u = .int .i64 x
/-- Ways that a draw has made. -/
abbrev OwW (w : World) (lo : Nat) (v : Value) (n : Nat) : Prop := OwZ isW 24 6 w lo v n
theorem OwW.read {w : World} {lo n : Nat} {v : Value} (h : OwW w lo v n) : ∃ xs : List DPthWay, xs.length = n ∧ RdPthWayS w v xs := by
  refine OwZ.rd (F := FPthWay) h (by omega) (fun cs hc hk => ?_)
  match cs, hc with
  | [c0, c1, c2, c3, c4, c5], _ =>
    obtain ⟨x0, rfl⟩ : ∃ x : Int, c0 = .int .i64 x := hk 0 c0 rfl
    obtain ⟨x1, rfl⟩ : ∃ x : Bool, c1 = .bool x := hk 1 c1 rfl
    obtain ⟨x2, rfl⟩ : ∃ x : Int, c2 = .int .i64 x := hk 2 c2 rfl
    obtain ⟨x3, rfl⟩ : ∃ x : Int, c3 = .int .i64 x := hk 3 c3 rfl
    obtain ⟨x4, rfl⟩ : ∃ x : Int, c4 = .int .i64 x := hk 4 c4 rfl
    obtain ⟨x5, rfl⟩ : ∃ x : Int, c5 = .int .i64 x := hk 5 c5 rfl
    exact ⟨⟨x0, x1, x2, x3, x4, x5⟩, rfl⟩
theorem elemPthWay : Elem Try.prog 30 24 6 := by
  have h := info_PthWay
  have hb' := infob_PthWay
  generalize hP : Try.prog.info? 24 = oi at *
  obtain ⟨i, rfl, hzz⟩ := Option.map_eq_some_iff.1 h
  simp only [Prod.mk.injEq] at hzz
  exact ⟨i, _, Try.underlying30, hP, hzz.1, hzz.2, of_decide_eq_true hb', rfl, by omega⟩
theorem kinds6 {a c d e f : Int} {b : Bool} : ∀ p u, (#[Value.int .i64 a, .bool b, .int .i64 c, .int .i64 d, .int .i64 e, .int .i64 f] : Array Value).toList[p]? = some u → isW (p % 6) u := by
  intro p u hu
  rcases p with _ | _ | _ | _ | _ | _ | p
  all_goals simp at hu
  all_goals (subst hu; exact ⟨_, rfl⟩)
set_option maxRecDepth 100000 in
set_option maxHeartbeats 2000000 in
theorem drawPthPick_any (v : Value) (xs : List UInt8) (w : World) (hv : RdB w v xs) :
    Calls Try.prog 22 #[v] w fun e w' => ∃ (u : Value) (ws : List DPthWay) (d : Int), e = .returned (.tuple #[u, .int .i64 d]) ∧ RdPthWayS w' u ws ∧ ws.length ≤ 3 ∧ Below w.heap.size w w' := by
  go_enter Try.func22, Try.ntmps22
  go_wp2_with fail
  refine (l30Open_any v xs _ hv).mono ?_
  rintro e w1 ⟨rfl, hr1, hb1, hs1⟩
  have Hb1 := Lib.hid hb1
  have HS := Lib.hid hs1
  have hk1 : Rdk w1.heap.size w1 w.heap.size (xs.take 2000) 0 := Rdk.of hr1 (Nat.le_refl _)
  clear hb1 hs1 hr1
  generalize hg : w.heap.size = g at *
  have Hg := Lib.hid hg
  clear hg
  generalize xs.take 2000 = ys at *
  have HR := Lib.hid hk1
  clear hk1
  go_wp2_with fail
  refine (pick_k g 0 w1.heap.size 4 ys _ (HR.out.alloc _) (by omega) (by omega)).mono ?_
  rintro e w2 ⟨m, q1, hm, rfl, hq1, hr2, hf2, hs2⟩
  have O2 := Lib.hid ((OwZ.lit0 (kd := isW) (e := 24) (m := 6) (Nat.le_refl w1.heap.size)).fr hf2 (by have := HS.out; omega))
  have F2 := Lib.hid (((Fr.refl g (g + 1) w1).alloc _).trans hf2)
  have R2 := Lib.hid hr2
  clear HR hr2 hf2 hs2
  go_wp2
  go_loopw [5, 6] (fun u n w3 => ∃ (j : Nat) (i : Int) (q : Nat), n = .int .i64 i ∧ 0 ≤ i ∧ (j : Int) + i = m ∧ OwW w3 w1.heap.size u j ∧ q ≤ q1 + 18 * j ∧ Rdk w1.heap.size w3 g ys q ∧ Fr g (g + 1) w1 w3) (fun _ n _ => (intOf n).toNat)
  case atStart => exact ⟨0, m, q1, rfl, by omega, by omega, O2.out, by omega, R2.out, F2.out⟩
  case round =>
    clear O2 F2 R2
    obtain ⟨j, i, q, rfl, hi0, hji, ho, hq, hr3, hf3⟩ := hrel
    obtain ⟨A, c, rfl⟩ := id ho.slice
    have HO := Lib.hid ho
    have HR := Lib.hid hr3
    have HF := Lib.hid hf3
    have HSz := Lib.hid hf3.size
    clear ho hr3 hf3
    rcases Int.lt_or_le 0 i with hlt | hge
    · go_wp2_with fail
      refine (l32AnyWay_any g q w1.heap.size ys _ HR.out (by omega) HSz.out).mono ?_
      rintro e w4 ⟨x, q4, rfl, hq4, hr4, hf4⟩
      have HN := Lib.hid (show ∀ k ∈ (Value.slice A j c).ownBlock.toList, k ≠ w4.heap.size from fun k hk => by have := ((HO.out.fr hf4 (by have := HS.out; omega)).inside k hk).2; omega)
      have HBb := Lib.hid (show w1.heap.size ≤ w4.heap.size from Nat.le_trans HSz.out hf4.size)
      replace HO := Lib.hid ((HO.out.fr hf4 (by have := HS.out; omega)).alloc (.cells (wayL x).toArray 24))
      replace HF := Lib.hid ((HF.out.trans hf4).alloc (.cells (wayL x).toArray 24))
      replace HR := Lib.hid (hr4.alloc (.cells (wayL x).toArray 24))
      replace HSz := Lib.hid (show w1.heap.size ≤ w4.heap.size from Nat.le_trans HSz.out hf4.size)
      have C := Lib.hid (Blk.new (w := w4) (b := w4.heap.size) (wayL x).toArray 24 rfl)
      clear hr4 hf4
      go_wp2_with fail
      refine (pick_k g q4 w1.heap.size 4 ys _ HR.out (by omega) (by omega)).mono ?_
      rintro e w5 ⟨n, q5, hn, rfl, hq5, hr5, hf5, hs5⟩
      replace HO := Lib.hid (HO.out.fr hf5 (by have := HS.out; omega))
      replace HF := Lib.hid (HF.out.trans hf5)
      replace HR := Lib.hid hr5
      replace C := Lib.hid (C.out.fr1 hf5 (by have := HS.out; have := HSz.out; omega))
      clear hr5 hf5 hs5
      generalize w4.heap.size = b at *
      go_wp2
      go_loopw [8] (fun nv w6 => ∃ (k : Int) (x : DPthWay), nv = .int .i64 k ∧ 0 ≤ k ∧ k ≤ 3 ∧ Blk w6 b (wayL x) ∧ OwW w6 w1.heap.size (.slice A j c) j ∧ Rdk w1.heap.size w6 g ys q5 ∧ Fr g (g + 1) w1 w6 ∧ w1.heap.size ≤ w6.heap.size) (fun nv _ => (intOf nv).toNat)
      case atStart => exact ⟨n, x, rfl, by omega, by omega, C.out, HO.out, HR.out, HF.out, HF.out.size⟩
      case round =>
        clear C HO HR HF HSz
        obtain ⟨k, y, rfl, hk0, hk3, hc6, ho6, hr6, hf6, hz6⟩ := hrel
        have C := Lib.hid hc6
        have HO := Lib.hid ho6
        have HR := Lib.hid hr6
        have HF := Lib.hid hf6
        have HZ := Lib.hid hz6
        clear hc6 ho6 hr6 hf6 hz6
        rcases Int.lt_or_le 0 k with hk | hk
        · have k0 := C.out
          have pc0 := k0.at (i := 0) rfl
          have pc1 := k0.at (i := 1) rfl
          have pc2 := k0.at (i := 2) rfl
          have pc3 := k0.at (i := 3) rfl
          have pc4 := k0.at (i := 4) rfl
          have pc5 := k0.at (i := 5) rfl
          have z0 := k0.frozen
          clear k0
          go_wp2_with fail
          refine (specPthOk_any _ _ _ _ _ _ _).mono ?_
          rintro e w7 ⟨rfl, b7⟩
          clear z0 pc0 pc1 pc2 pc3 pc4 pc5
          replace C := Lib.hid (C.out.keep b7)
          replace HO := Lib.hid (HO.out.below b7)
          replace HR := Lib.hid (HR.out.fr (Fr.of_below (lo := w1.heap.size) (hi := w1.heap.size) b7) (Nat.le_refl _))
          replace HF := Lib.hid (HF.out.trans (Fr.of_below b7))
          replace HZ := Lib.hid (Nat.le_trans HZ.out b7.size)
          clear b7
          rcases hok : okW y.xAddr y.xOn y.xErrors y.xSrtt y.xVar y.xRto with _ | _
          · have k0 := C.out
            have pc0 := k0.at (i := 0) rfl
            have pc1 := k0.at (i := 1) rfl
            have pc2 := k0.at (i := 2) rfl
            have pc3 := k0.at (i := 3) rfl
            have pc4 := k0.at (i := 4) rfl
            have pc5 := k0.at (i := 5) rfl
            have z0 := k0.frozen
            clear k0
            go_wp2_with (at_builtin; go_loud (refine wpList_pushZ1 elemPthWay w7 _ _ rfl (.tmp 32) (.tmp 34) rfl rfl rfl HO.out (by have := HZ.out; omega) rfl kinds6 (by simp [Value.oneCell']) (by omega) ?_); intro v' w8 h1 h2)
            clear z0 pc0 pc1 pc2 pc3 pc4 pc5
            have H1 := Lib.hid h1
            have H2 := Lib.hid h2
            clear h1 h2
            go_wp2
            exact ⟨⟨j + 1, i - 1, q5, by go_num, by omega, by omega, H1.out, by omega, HR.out.fr H2.out (Nat.le_refl _), HF.out.later H2.out (Nat.le_refl _)⟩, by simp [intOf]; omega⟩
          · have k0 := C.out
            have pc0 := k0.at (i := 0) rfl
            have pc1 := k0.at (i := 1) rfl
            have pc2 := k0.at (i := 2) rfl
            have pc3 := k0.at (i := 3) rfl
            have pc4 := k0.at (i := 4) rfl
            have pc5 := k0.at (i := 5) rfl
            have z0 := k0.frozen
            clear k0
            go_wp2_with fail
            refine ((lost_both y).1 _).mono ?_
            rintro e w8 ⟨rfl, b8⟩
            clear z0 pc0 pc1 pc2 pc3 pc4 pc5
            replace C := Lib.hid (C.out.keep b8)
            replace HO := Lib.hid (HO.out.below b8)
            replace HR := Lib.hid (HR.out.fr (Fr.of_below (lo := w1.heap.size) (hi := w1.heap.size) b8) (Nat.le_refl _))
            replace HF := Lib.hid (HF.out.trans (Fr.of_below b8))
            replace HZ := Lib.hid (Nat.le_trans HZ.out b8.size)
            clear b8
            generalize lostF y = x' at *
            have k0 := C.out
            have pc0 := k0.at (i := 0) rfl
            have pc1 := k0.at (i := 1) rfl
            have pc2 := k0.at (i := 2) rfl
            have pc3 := k0.at (i := 3) rfl
            have pc4 := k0.at (i := 4) rfl
            have pc5 := k0.at (i := 5) rfl
            have z0 := k0.frozen
            clear k0
            go_wp2
            exact ⟨⟨k - 1, x', by go_num, by omega, by omega, Blk.put6 x' C.out, HO.out.keep (fun a ha => (Fr.put6 (b := b) _ _ _ _ _ _).block a (HO.out.inside a ha).2 (by have := HN.out a ha; omega)), HR.out.fr (Fr.put6 _ _ _ _ _ _) HBb.out, HF.out.later (Fr.put6 _ _ _ _ _ _) HBb.out, Nat.le_trans HZ.out (Fr.put6 (b := b) _ _ _ _ _ _).size⟩, by simp [intOf]; omega⟩
        · have k0 := C.out
          have pc0 := k0.at (i := 0) rfl
          have pc1 := k0.at (i := 1) rfl
          have pc2 := k0.at (i := 2) rfl
          have pc3 := k0.at (i := 3) rfl
          have pc4 := k0.at (i := 4) rfl
          have pc5 := k0.at (i := 5) rfl
          have z0 := k0.frozen
          clear k0
          go_wp2_with (at_builtin; go_loud (refine wpList_pushZ1 elemPthWay wr _ _ rfl (.tmp 32) (.tmp 34) rfl rfl rfl HO.out (by have := HZ.out; omega) rfl kinds6 (by simp [Value.oneCell']) (by omega) ?_); intro v' w8 h1 h2)
          clear z0 pc0 pc1 pc2 pc3 pc4 pc5
          have H1 := Lib.hid h1
          have H2 := Lib.hid h2
          clear h1 h2
          go_wp2
          exact ⟨⟨j + 1, i - 1, q5, by go_num, by omega, by omega, H1.out, by omega, HR.out.fr H2.out (Nat.le_refl _), HF.out.later H2.out (Nat.le_refl _)⟩, by simp [intOf]; omega⟩
    · go_wp2_with fail
      refine (pick_k g q w1.heap.size 4 ys _ HR.out (by omega) (by omega)).mono ?_
      rintro e w4 ⟨a, q4, ha, rfl, hq4, hr4, hf4, hs4⟩
      replace HO := Lib.hid (HO.out.fr hf4 (by have := HS.out; omega))
      replace HF := Lib.hid (HF.out.trans hf4)
      clear HR hs4 hf4
      go_wp2_with fail
      refine (pick_k g q4 w1.heap.size 2 ys _ hr4 (by omega) (by omega)).mono ?_
      rintro e w5 ⟨a2, q5, ha2, rfl, hq5, hr5, hf5, hs5⟩
      replace HO := Lib.hid (HO.out.fr hf5 (by have := HS.out; omega))
      replace HF := Lib.hid (HF.out.trans hf5)
      clear hr4 hr5 hs5 hf5
      obtain ⟨ws, hw1, hw2⟩ := OwW.read HO.out
      have HW := Lib.hid hw2
      have HB := Lib.hid (show Below w.heap.size w w5 by rw [Hg.out]; exact Hb1.out.trans (HF.out.below (Nat.le_refl _) (by have := HS.out; omega)))
      clear hw2
      go_wp2
      go_ret2
      exact ⟨_, ws, _, rfl, HW.out, by omega, HB.out⟩
end Go.Proofs.Ythdjjgbjemaabaa
