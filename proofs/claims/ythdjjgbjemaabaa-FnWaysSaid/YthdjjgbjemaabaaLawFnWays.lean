/-
  Ways that are heard and lost, and the way that is picked (Rows.FnWaysSaid). No condition.
-/
import Derived.Test.YthdjjgbjemaabaaDrawW4
import Derived.Test.YthdjjgbjemaabaaClFnWays
import Derived.Test.YthdjjgbjemaabaaRow
import Derived.BigQuiet
import Derived.Deep.RegionHeld
namespace Go.Proofs.Ythdjjgbjemaabaa
open Go.ChangeShapes Go.WideShapes Go.ChangeAt Go.RowKit
set_option linter.unusedVariables false
set_option linter.unusedSimpArgs false

theorem implPthOk_is (x : DPthWay) (r : Bool) (h : okX x = r) (w : World) : Calls Try.prog 20 #[.agg #[.int .i64 x.xAddr, .bool x.xOn, .int .i64 x.xErrors, .int .i64 x.xSrtt, .int .i64 x.xVar, .int .i64 x.xRto]] w fun e w' => e = .returned (.bool r) ∧ Below w.heap.size w w' := by
  have := implPthOk_any x.xAddr x.xOn x.xErrors x.xSrtt x.xVar x.xRto w
  rw [show okW x.xAddr x.xOn x.xErrors x.xSrtt x.xVar x.xRto = r from h] at this
  exact this
theorem specPthOk_is (x : DPthWay) (r : Bool) (h : okX x = r) (w : World) : Calls Try.prog 21 #[.agg #[.int .i64 x.xAddr, .bool x.xOn, .int .i64 x.xErrors, .int .i64 x.xSrtt, .int .i64 x.xVar, .int .i64 x.xRto]] w fun e w' => e = .returned (.bool r) ∧ Below w.heap.size w w' := by
  have := specPthOk_any x.xAddr x.xOn x.xErrors x.xSrtt x.xVar x.xRto w
  rw [show okW x.xAddr x.xOn x.xErrors x.xSrtt x.xVar x.xRto = r from h] at this
  exact this
theorem pick_facts (ws : List DPthWay) (d : Int) : pickF ws d = -1 ∨ ∃ P Q : Nat, d = P ∧ pickF ws d = Q ∧ P < ws.length ∧ Q < ws.length ∧ (∀ y, ws[P]? = some y → y.xOn = true → Q = P) ∧ ∀ (j : Nat) (y z : DPthWay), ws[j]? = some y → ws[Q]? = some z → y.xOn = true → z.xOn = true := by
  by_cases h1 : ws.length ≤ 2
  · rcases h2 : inB d 0 ((ws.length : Int) - 1) with _ | _
    · exact .inl (pickF_out (.inr h2))
    · rcases h3 : allI (fun _ x => okX x) ws with _ | _
      · obtain ⟨j, hj, h4⟩ := allI_not h3
        exact .inl (pickF_bad hj h4)
      · obtain ⟨hd0, hd1⟩ := inB_iff.1 h2
        obtain ⟨P, rfl⟩ := Int.eq_ofNat_of_zero_le hd0
        have hP : P < ws.length := by omega
        obtain ⟨c1, c2, c3⟩ := take_cases ws P h1 hP
        rw [pickF_good h1 h2 h3]
        refine .inr ?_
        rcases hon : ws[P].xOn with _ | _
        · by_cases hex : ∃ j, ∃ hj : j < ws.length, ws[j].xOn = true
          · obtain ⟨j, hj, h5⟩ := hex
            refine ⟨P, j, rfl, c2 j hj hon h5, hP, hj, fun y hy hyo => ?_, fun i y z _ hz _ => ?_⟩
            · obtain ⟨_, rfl⟩ := List.getElem?_eq_some_iff.1 hy
              rw [hon] at hyo; cases hyo
            · obtain ⟨_, rfl⟩ := List.getElem?_eq_some_iff.1 hz
              exact h5
          · have hoff : ∀ j (hj : j < ws.length), ws[j].xOn = false := fun j hj => by
              rcases h6 : ws[j].xOn with _ | _
              · rfl
              · exact absurd ⟨j, hj, h6⟩ hex
            refine ⟨P, P, rfl, c3 hoff, hP, hP, fun _ _ _ => rfl, fun i y z hy _ hyo => ?_⟩
            obtain ⟨hi, rfl⟩ := List.getElem?_eq_some_iff.1 hy
            rw [hoff i hi] at hyo; cases hyo
        · refine ⟨P, P, rfl, c1 hon, hP, hP, fun _ _ _ => rfl, fun i y z _ hz _ => ?_⟩
          obtain ⟨_, rfl⟩ := List.getElem?_eq_some_iff.1 hz
          exact hon
  · exact .inl (pickF_out (.inl (by omega)))
theorem scWays {x y z : DPthWay} {bx by' bz : Nat} {w : World} (X : Blk w bx (wayL x)) (Y : Blk w by' (wayL y)) (Z : Blk w bz (wayL z)) : w.cell? ⟨bx, 0, none⟩ = some (.int .i64 x.xAddr) ∧ w.cell? ⟨bx, 1, none⟩ = some (.bool x.xOn) ∧ w.cell? ⟨bx, 2, none⟩ = some (.int .i64 x.xErrors) ∧ w.cell? ⟨bx, 3, none⟩ = some (.int .i64 x.xSrtt) ∧ w.cell? ⟨bx, 4, none⟩ = some (.int .i64 x.xVar) ∧ w.cell? ⟨bx, 5, none⟩ = some (.int .i64 x.xRto) ∧ w.cell? ⟨by', 0, none⟩ = some (.int .i64 y.xAddr) ∧ w.cell? ⟨by', 1, none⟩ = some (.bool y.xOn) ∧ w.cell? ⟨by', 2, none⟩ = some (.int .i64 y.xErrors) ∧ w.cell? ⟨by', 3, none⟩ = some (.int .i64 y.xSrtt) ∧ w.cell? ⟨by', 4, none⟩ = some (.int .i64 y.xVar) ∧ w.cell? ⟨by', 5, none⟩ = some (.int .i64 y.xRto) ∧ w.cell? ⟨bz, 0, none⟩ = some (.int .i64 z.xAddr) ∧ w.cell? ⟨bz, 1, none⟩ = some (.bool z.xOn) ∧ w.cell? ⟨bz, 2, none⟩ = some (.int .i64 z.xErrors) ∧ w.cell? ⟨bz, 3, none⟩ = some (.int .i64 z.xSrtt) ∧ w.cell? ⟨bz, 4, none⟩ = some (.int .i64 z.xVar) ∧ w.cell? ⟨bz, 5, none⟩ = some (.int .i64 z.xRto) :=
  ⟨X.at (i := 0) rfl, X.at (i := 1) rfl, X.at (i := 2) rfl, X.at (i := 3) rfl, X.at (i := 4) rfl, X.at (i := 5) rfl, Y.at (i := 0) rfl, Y.at (i := 1) rfl, Y.at (i := 2) rfl, Y.at (i := 3) rfl, Y.at (i := 4) rfl, Y.at (i := 5) rfl, Z.at (i := 0) rfl, Z.at (i := 1) rfl, Z.at (i := 2) rfl, Z.at (i := 3) rfl, Z.at (i := 4) rfl, Z.at (i := 5) rfl⟩
set_option maxRecDepth 100000 in
set_option maxHeartbeats 4000000 in
theorem lawFnWays (v0 : Value) (x0 : List UInt8) (v1 : Value) (x1 : List UInt8) (w : World) (h0 : RdB w v0 x0) (h1 : RdB w v1 x1) : Calls Try.prog 3 #[v0, v1] w fun e w' => e = .returned (.bool true) ∧ Below w.heap.size w w' := by
  obtain ⟨A0, c0, rfl⟩ := id h0.slice
  obtain ⟨A1, c1, rfl⟩ := id h1.slice
  have R0 := Lib.hid h0
  have R1 := Lib.hid h1
  clear h0 h1
  generalize hl0 : x0.length = n0 at *
  generalize hl1 : x1.length = n1 at *
  clear hl0 hl1
  rcases Nat.lt_or_ge 1048576 n0 with hb0 | hb0
  · go_enter Try.func3, Try.ntmps3
    go_wp2
    go_ret
    exact ⟨rfl, Below.refl _ _⟩
  rcases Nat.lt_or_ge 1048576 n1 with hb1 | hb1
  · go_enter Try.func3, Try.ntmps3
    go_wp2
    go_ret
    exact ⟨rfl, Below.refl _ _⟩
  have hc0 : ((1048576 : Int) < (n0 : Int)) = False := by simp; omega
  have hc1 : ((1048576 : Int) < (n1 : Int)) = False := by simp; omega
  go_enter Try.func3, Try.ntmps3
  go_wp2_with fail
  refine (drawPthHeard_any _ x0 _ R0.out).mono ?_
  rintro e w1 ⟨x, t, rfl, b1⟩
  have HB := Lib.hid (b1.alloc b1.size (.cells #[.int .i64 x.xAddr, .bool x.xOn, .int .i64 x.xErrors, .int .i64 x.xSrtt, .int .i64 x.xVar, .int .i64 x.xRto] 24))
  have X := Lib.hid (show Blk _ _ (wayL x) from Blk.new (w := w1) (b := w1.heap.size) #[.int .i64 x.xAddr, .bool x.xOn, .int .i64 x.xErrors, .int .i64 x.xSrtt, .int .i64 x.xVar, .int .i64 x.xRto] 24 rfl)
  clear b1 hc0 hc1 hb0 hb1
  have HH := Lib.hid (heard_both x t)
  have HL := Lib.hid (lost_both x)
  have Hbad := Lib.hid (show okX x = false → heardF x t = zWay ∧ lostF x = zWay from fun h => ⟨heard_bad t h, lost_bad h⟩)
  have Hgood := Lib.hid (show okX x = true → okX (heardF x t) = true ∧ (heardF x t).xOn = true ∧ (heardF x t).xErrors = 0 ∧ (heardF x t).xAddr = x.xAddr from heard_good t)
  have Hthr := Lib.hid (show okX x = true → okX (lostF (lostF (lostF x))) = true ∧ (lostF (lostF (lostF x))).xOn = false ∧ x.xRto ≤ (lostF (lostF (lostF x))).xRto from lost_thrice)
  generalize heardF x t = y at *
  generalize lostF x = z at *
  have k := X.out
  have pa0 := k.at (i := 0) rfl
  have pa1 := k.at (i := 1) rfl
  have pa2 := k.at (i := 2) rfl
  have pa3 := k.at (i := 3) rfl
  have pa4 := k.at (i := 4) rfl
  have pa5 := k.at (i := 5) rfl
  clear k
  go_wp2_with fail
  refine (HH.out.2 _).mono ?_
  rintro e w2 ⟨rfl, b2⟩
  clear pa0 pa1 pa2 pa3 pa4 pa5
  replace X := Lib.hid ((X.out.keep b2).alloc (.cells #[.int .i64 y.xAddr, .bool y.xOn, .int .i64 y.xErrors, .int .i64 y.xSrtt, .int .i64 y.xVar, .int .i64 y.xRto] 24))
  have Y := Lib.hid (show Blk _ _ (wayL y) from Blk.new (w := w2) (b := w2.heap.size) #[.int .i64 y.xAddr, .bool y.xOn, .int .i64 y.xErrors, .int .i64 y.xSrtt, .int .i64 y.xVar, .int .i64 y.xRto] 24 rfl)
  replace HB := Lib.hid ((HB.out.trans (b2.mono HB.out.size)).alloc (Nat.le_trans HB.out.size b2.size) (.cells #[.int .i64 y.xAddr, .bool y.xOn, .int .i64 y.xErrors, .int .i64 y.xSrtt, .int .i64 y.xVar, .int .i64 y.xRto] 24))
  clear b2
  have k := X.out
  have pa0 := k.at (i := 0) rfl
  have pa1 := k.at (i := 1) rfl
  have pa2 := k.at (i := 2) rfl
  have pa3 := k.at (i := 3) rfl
  have pa4 := k.at (i := 4) rfl
  have pa5 := k.at (i := 5) rfl
  clear k
  go_wp2_with fail
  refine (HL.out.2 _).mono ?_
  rintro e w3 ⟨rfl, b3⟩
  clear pa0 pa1 pa2 pa3 pa4 pa5
  replace X := Lib.hid ((X.out.keep b3).alloc (.cells #[.int .i64 z.xAddr, .bool z.xOn, .int .i64 z.xErrors, .int .i64 z.xSrtt, .int .i64 z.xVar, .int .i64 z.xRto] 24))
  replace Y := Lib.hid ((Y.out.keep b3).alloc (.cells #[.int .i64 z.xAddr, .bool z.xOn, .int .i64 z.xErrors, .int .i64 z.xSrtt, .int .i64 z.xVar, .int .i64 z.xRto] 24))
  have Z := Lib.hid (show Blk _ _ (wayL z) from Blk.new (w := w3) (b := w3.heap.size) #[.int .i64 z.xAddr, .bool z.xOn, .int .i64 z.xErrors, .int .i64 z.xSrtt, .int .i64 z.xVar, .int .i64 z.xRto] 24 rfl)
  replace HB := Lib.hid ((HB.out.trans (b3.mono HB.out.size)).alloc (Nat.le_trans HB.out.size b3.size) (.cells #[.int .i64 z.xAddr, .bool z.xOn, .int .i64 z.xErrors, .int .i64 z.xSrtt, .int .i64 z.xVar, .int .i64 z.xRto] 24))
  clear b3
  go_wp2_with fail
  generalize World.alloc w3 _ = w4 at *
  generalize w3.heap.size = bz at *
  generalize w2.heap.size = by' at *
  generalize w1.heap.size = bx at *
  rcases hok : okX x with _ | _
  all_goals
    have Hok := Lib.hid hok
    clear hok
    have X5 := Lib.hid X.out.drew
    have Y5 := Lib.hid Y.out.drew
    have Z5 := Lib.hid Z.out.drew
    clear X Y Z
    go_region_held3 (fun v => v.cell? ⟨bx, 0, none⟩ = some (.int .i64 x.xAddr) ∧ v.cell? ⟨bx, 1, none⟩ = some (.bool x.xOn) ∧ v.cell? ⟨bx, 2, none⟩ = some (.int .i64 x.xErrors) ∧ v.cell? ⟨bx, 3, none⟩ = some (.int .i64 x.xSrtt) ∧ v.cell? ⟨bx, 4, none⟩ = some (.int .i64 x.xVar) ∧ v.cell? ⟨bx, 5, none⟩ = some (.int .i64 x.xRto) ∧ v.cell? ⟨by', 0, none⟩ = some (.int .i64 y.xAddr) ∧ v.cell? ⟨by', 1, none⟩ = some (.bool y.xOn) ∧ v.cell? ⟨by', 2, none⟩ = some (.int .i64 y.xErrors) ∧ v.cell? ⟨by', 3, none⟩ = some (.int .i64 y.xSrtt) ∧ v.cell? ⟨by', 4, none⟩ = some (.int .i64 y.xVar) ∧ v.cell? ⟨by', 5, none⟩ = some (.int .i64 y.xRto) ∧ v.cell? ⟨bz, 0, none⟩ = some (.int .i64 z.xAddr) ∧ v.cell? ⟨bz, 1, none⟩ = some (.bool z.xOn) ∧ v.cell? ⟨bz, 2, none⟩ = some (.int .i64 z.xErrors) ∧ v.cell? ⟨bz, 3, none⟩ = some (.int .i64 z.xSrtt) ∧ v.cell? ⟨bz, 4, none⟩ = some (.int .i64 z.xVar) ∧ v.cell? ⟨bz, 5, none⟩ = some (.int .i64 z.xRto)) (first | (with_reducible exact scWays X5.out Y5.out Z5.out) | (with_reducible exact scWays X6.out Y6.out Z6.out) | (with_reducible exact scWays X7.out Y7.out Z7.out) | (with_reducible exact scWays X8.out Y8.out Z8.out) | (with_reducible exact scWays X9.out Y9.out Z9.out)) (first | (go_at_call 18; refine (HH.out.1 _).mono ?_; rintro e w6 ⟨rfl, b6⟩; have X6 := Lib.hid (X5.out.keep b6); have Y6 := Lib.hid (Y5.out.keep b6); have Z6 := Lib.hid (Z5.out.keep b6); have HB6 := Lib.hid (HB.out.drew.trans (b6.mono HB.out.size)); clear b6) | (go_at_call 19; refine (HL.out.1 _).mono ?_; rintro e w7 ⟨rfl, b7⟩; have X7 := Lib.hid (X6.out.keep b7); have Y7 := Lib.hid (Y6.out.keep b7); have Z7 := Lib.hid (Z6.out.keep b7); have HB7 := Lib.hid (HB6.out.trans (b7.mono HB6.out.size)); clear b7) | (go_at_call 20; refine (implPthOk_is x _ Hok.out _).mono ?_; rintro e w8 ⟨rfl, b8⟩; have X8 := Lib.hid (X7.out.keep b8); have Y8 := Lib.hid (Y7.out.keep b8); have Z8 := Lib.hid (Z7.out.keep b8); have HB8 := Lib.hid (HB7.out.trans (b8.mono HB7.out.size)); clear b8) | (go_at_call 21; refine (specPthOk_is x _ Hok.out _).mono ?_; rintro e w9 ⟨rfl, b9⟩; have X9 := Lib.hid (X8.out.keep b9); have Y9 := Lib.hid (Y8.out.keep b9); have Z9 := Lib.hid (Z8.out.keep b9); have HB9 := Lib.hid (HB8.out.trans (b9.mono HB8.out.size)); clear b9))
  · obtain ⟨hy, hz⟩ := Hbad.out Hok.out
    subst hy hz
    have k := X9.out
    have pa0 := k.at (i := 0) rfl
    have pa1 := k.at (i := 1) rfl
    have pa2 := k.at (i := 2) rfl
    have pa3 := k.at (i := 3) rfl
    have pa4 := k.at (i := 4) rfl
    have pa5 := k.at (i := 5) rfl
    clear k
    go_wp2_with fail
    refine (specPthOk_is x _ Hok.out _).mono ?_
    rintro e w10 ⟨rfl, b10⟩
    clear pa0 pa1 pa2 pa3 pa4 pa5
    have Y10 := Y9.out.keep b10
    have Z10 := Z9.out.keep b10
    have HB10 := Lib.hid (HB9.out.trans (b10.mono HB9.out.size))
    clear b10
    have ya0 : _ = some (Value.int .i64 0) := Y10.at (i := 0) rfl
    have ya1 : _ = some (Value.bool false) := Y10.at (i := 1) rfl
    have ya2 : _ = some (Value.int .i64 0) := Y10.at (i := 2) rfl
    have ya3 : _ = some (Value.int .i64 0) := Y10.at (i := 3) rfl
    have ya4 : _ = some (Value.int .i64 0) := Y10.at (i := 4) rfl
    have ya5 : _ = some (Value.int .i64 0) := Y10.at (i := 5) rfl
    have za0 : _ = some (Value.int .i64 0) := Z10.at (i := 0) rfl
    have za1 : _ = some (Value.bool false) := Z10.at (i := 1) rfl
    have za2 : _ = some (Value.int .i64 0) := Z10.at (i := 2) rfl
    have za3 : _ = some (Value.int .i64 0) := Z10.at (i := 3) rfl
    have za4 : _ = some (Value.int .i64 0) := Z10.at (i := 4) rfl
    have za5 : _ = some (Value.int .i64 0) := Z10.at (i := 5) rfl
    clear Y10 Z10
    go_wp2
    go_ret
    exact ⟨rfl, HB10.out⟩
  · obtain ⟨oy, yon, yer, yad⟩ := Hgood.out Hok.out
    obtain ⟨ou, uon, uro⟩ := Hthr.out Hok.out
    have HL2 := Lib.hid (lost_both z).2
    have HL3 := Lib.hid (lost_both (lostF z)).2
    have HHu := Lib.hid (heard_both (lostF (lostF z)) t).2
    have hgu := (heard_good t ou).2.1
    clear Hgood Hthr Hbad HH HL
    generalize heardF (lostF (lostF z)) t = h at *
    generalize lostF (lostF z) = u at *
    generalize lostF z = z2 at *
    obtain ⟨ua, uo, ue, us, uv, ur⟩ := u
    obtain ⟨ya, yo, ye, ys, yv, yr⟩ := y
    obtain ⟨ha, ho, he, hs, hv, hr⟩ := h
    simp only at yon yer yad uon uro hgu
    subst yon yer yad uon hgu
    have Oy := Lib.hid oy
    have Ou := Lib.hid ou
    clear oy ou
    have k := X9.out
    have pa0 := k.at (i := 0) rfl
    have pa1 := k.at (i := 1) rfl
    have pa2 := k.at (i := 2) rfl
    have pa3 := k.at (i := 3) rfl
    have pa4 := k.at (i := 4) rfl
    have pa5 := k.at (i := 5) rfl
    clear k
    go_wp2_with fail
    refine (specPthOk_is x _ Hok.out _).mono ?_
    rintro e w10 ⟨rfl, b10⟩
    clear pa0 pa1 pa2 pa3 pa4 pa5
    have X := Lib.hid (X9.out.keep b10)
    have Y := Lib.hid (Y9.out.keep b10)
    have Z := Lib.hid (Z9.out.keep b10)
    have HB := Lib.hid (HB9.out.trans (b10.mono HB9.out.size))
    clear b10
    have k := Z.out
    have pa0 := k.at (i := 0) rfl
    have pa1 := k.at (i := 1) rfl
    have pa2 := k.at (i := 2) rfl
    have pa3 := k.at (i := 3) rfl
    have pa4 := k.at (i := 4) rfl
    have pa5 := k.at (i := 5) rfl
    clear k
    go_wp2_with fail
    refine (HL2.out _).mono ?_
    rintro e w11 ⟨rfl, b11⟩
    clear pa0 pa1 pa2 pa3 pa4 pa5
    replace X := Lib.hid (X.out.keep b11)
    replace Y := Lib.hid (Y.out.keep b11)
    replace HB := Lib.hid (HB.out.trans (b11.mono HB.out.size))
    clear b11 Z
    go_wp2_with fail
    refine (HL3.out _).mono ?_
    rintro e w12 ⟨rfl, b12⟩
    replace X := Lib.hid ((X.out.keep b12).alloc (.cells #[.int .i64 ua, .bool false, .int .i64 ue, .int .i64 us, .int .i64 uv, .int .i64 ur] 24))
    replace Y := Lib.hid ((Y.out.keep b12).alloc (.cells #[.int .i64 ua, .bool false, .int .i64 ue, .int .i64 us, .int .i64 uv, .int .i64 ur] 24))
    replace HB := Lib.hid ((HB.out.trans (b12.mono HB.out.size)).alloc (Nat.le_trans HB.out.size b12.size) (.cells #[.int .i64 ua, .bool false, .int .i64 ue, .int .i64 us, .int .i64 uv, .int .i64 ur] 24))
    have U := Lib.hid (show Blk _ _ (wayL ⟨ua, false, ue, us, uv, ur⟩) from Blk.new (w := w12) (b := w12.heap.size) #[.int .i64 ua, .bool false, .int .i64 ue, .int .i64 us, .int .i64 uv, .int .i64 ur] 24 rfl)
    clear b12
    have yc0 : _ = some (Value.int .i64 x.xAddr) := Y.out.at (i := 0) rfl
    have yc1 : _ = some (Value.bool true) := Y.out.at (i := 1) rfl
    have yc2 : _ = some (Value.int .i64 0) := Y.out.at (i := 2) rfl
    have yc3 : _ = some (Value.int .i64 ys) := Y.out.at (i := 3) rfl
    have yc4 : _ = some (Value.int .i64 yv) := Y.out.at (i := 4) rfl
    have yc5 : _ = some (Value.int .i64 yr) := Y.out.at (i := 5) rfl
    go_wp2_with fail
    refine (implPthOk_is ⟨x.xAddr, true, 0, ys, yv, yr⟩ _ Oy.out _).mono ?_
    rintro e w13 ⟨rfl, b13⟩
    clear yc0 yc1 yc2 yc3 yc4 yc5
    replace X := Lib.hid (X.out.keep b13)
    replace Y := Lib.hid (Y.out.keep b13)
    replace U := Lib.hid (U.out.keep b13)
    replace HB := Lib.hid (HB.out.trans (b13.mono HB.out.size))
    clear b13
    generalize w12.heap.size = bu at *
    have uc0 : _ = some (Value.int .i64 ua) := U.out.at (i := 0) rfl
    have uc1 : _ = some (Value.bool false) := U.out.at (i := 1) rfl
    have uc2 : _ = some (Value.int .i64 ue) := U.out.at (i := 2) rfl
    have uc3 : _ = some (Value.int .i64 us) := U.out.at (i := 3) rfl
    have uc4 : _ = some (Value.int .i64 uv) := U.out.at (i := 4) rfl
    have uc5 : _ = some (Value.int .i64 ur) := U.out.at (i := 5) rfl
    go_wp2_with fail
    refine (implPthOk_is ⟨ua, false, ue, us, uv, ur⟩ _ Ou.out _).mono ?_
    rintro e w14 ⟨rfl, b14⟩
    clear uc0 uc1 uc2 uc3 uc4 uc5
    replace X := Lib.hid (X.out.keep b14)
    replace Y := Lib.hid (Y.out.keep b14)
    replace U := Lib.hid (U.out.keep b14)
    replace HB := Lib.hid (HB.out.trans (b14.mono HB.out.size))
    clear b14
    have uc0 : _ = some (Value.int .i64 ua) := U.out.at (i := 0) rfl
    have uc1 : _ = some (Value.bool false) := U.out.at (i := 1) rfl
    have uc2 : _ = some (Value.int .i64 ue) := U.out.at (i := 2) rfl
    have uc3 : _ = some (Value.int .i64 us) := U.out.at (i := 3) rfl
    have uc4 : _ = some (Value.int .i64 uv) := U.out.at (i := 4) rfl
    have uc5 : _ = some (Value.int .i64 ur) := U.out.at (i := 5) rfl
    have yc0 : _ = some (Value.int .i64 x.xAddr) := Y.out.at (i := 0) rfl
    have yc1 : _ = some (Value.bool true) := Y.out.at (i := 1) rfl
    have yc2 : _ = some (Value.int .i64 0) := Y.out.at (i := 2) rfl
    have yc3 : _ = some (Value.int .i64 ys) := Y.out.at (i := 3) rfl
    have yc4 : _ = some (Value.int .i64 yv) := Y.out.at (i := 4) rfl
    have yc5 : _ = some (Value.int .i64 yr) := Y.out.at (i := 5) rfl
    go_wp2_with fail
    refine (HHu.out _).mono ?_
    rintro e w15 ⟨rfl, b15⟩
    clear uc0 uc1 uc2 uc3 uc4 uc5 yc0 yc1 yc2 yc3 yc4 yc5
    replace X := Lib.hid (X.out.keep b15)
    replace Y := Lib.hid (Y.out.keep b15)
    replace U := Lib.hid (U.out.keep b15)
    replace HB := Lib.hid (HB.out.trans (b15.mono HB.out.size))
    clear b15
    have uc0 : _ = some (Value.int .i64 ua) := U.out.at (i := 0) rfl
    have uc1 : _ = some (Value.bool false) := U.out.at (i := 1) rfl
    have uc2 : _ = some (Value.int .i64 ue) := U.out.at (i := 2) rfl
    have uc3 : _ = some (Value.int .i64 us) := U.out.at (i := 3) rfl
    have uc4 : _ = some (Value.int .i64 uv) := U.out.at (i := 4) rfl
    have uc5 : _ = some (Value.int .i64 ur) := U.out.at (i := 5) rfl
    have yc0 : _ = some (Value.int .i64 x.xAddr) := Y.out.at (i := 0) rfl
    have yc1 : _ = some (Value.bool true) := Y.out.at (i := 1) rfl
    have yc2 : _ = some (Value.int .i64 0) := Y.out.at (i := 2) rfl
    have yc3 : _ = some (Value.int .i64 ys) := Y.out.at (i := 3) rfl
    have yc4 : _ = some (Value.int .i64 yv) := Y.out.at (i := 4) rfl
    have yc5 : _ = some (Value.int .i64 yr) := Y.out.at (i := 5) rfl
    have k := X.out
    have pa0 := k.at (i := 0) rfl
    have pa1 := k.at (i := 1) rfl
    have pa2 := k.at (i := 2) rfl
    have pa3 := k.at (i := 3) rfl
    have pa4 := k.at (i := 4) rfl
    have pa5 := k.at (i := 5) rfl
    clear k
    have hfd : ∀ W : World, (Instr.field 24 (.agg #[.int .i64 ha, .bool true, .int .i64 he, .int .i64 hs, .int .i64 hv, .int .i64 hr]) 1).run Try.prog W = .ok (.bool true) W := fun _ => by kernel_rfl
    have hlt : (decide (ur < x.xRto)) = false := decide_eq_false (by omega)
    have hlt2 : ¬ ur < x.xRto := by omega
    go_wp2_with fail
    refine (drawPthPick_any _ x1 _ (R1.out.below HB.out)).mono ?_
    rintro e w20 ⟨wv, ws, d, rfl, hw, hlen, b20⟩
    clear uc0 uc1 uc2 uc3 uc4 uc5 yc0 yc1 yc2 yc3 yc4 yc5 pa0 pa1 pa2 pa3 pa4 pa5
    obtain ⟨A, c, rfl⟩ := RdS.slice hw
    have hcap := RdS.cap hw
    have HW := Lib.hid hw
    replace HB := Lib.hid (HB.out.trans (b20.mono HB.out.size))
    clear b20 hw X Y U Z5 Z6 Z7 Z8 Z9 X5 X6 X7 X8 X9 Y5 Y6 Y7 Y8 Y9 HL2 HL3 HHu Oy Ou hfd hlt hlt2 uro HB6 HB7 HB8 HB9
    have HP := Lib.hid (pick_facts ws d)
    have Hl2 := Lib.hid (show ws.length ≤ 1048576 by omega)
    generalize hl : ws.length = n at *
    have Hl := Lib.hid hl
    clear hl
    go_wp2_with fail
    refine (implPthPick_n _ ws d _ HW.out (by rw [Hl.out]; exact Hl2.out)).mono ?_
    rintro e w21 ⟨rfl, b21⟩
    replace HW := Lib.hid (RdPthWayS.below HW.out b21)
    replace HB := Lib.hid (HB.out.trans (b21.mono HB.out.size))
    clear b21
    go_wp2_with fail
    refine (specPthPick_n _ ws d _ HW.out (by rw [Hl.out]; exact Hl2.out)).mono ?_
    rintro e w22 ⟨rfl, b22⟩
    replace HW := Lib.hid (RdPthWayS.below HW.out b22)
    replace HB := Lib.hid (HB.out.trans (b22.mono HB.out.size))
    clear b22
    generalize pickF ws d = p at *
    have hp := HP.out
    rcases hp with rfl | ⟨P, Q, rfl, rfl, hP, hQ, hPQ, hall⟩
    · go_wp2
      go_loopw [13] (fun i wl => ∃ j : Nat, j ≤ n ∧ i = .int .i64 j ∧ Below w.heap.size w wl) (fun i _ => n - (intOf i).toNat)
      case atStart => exact ⟨0, by omega, rfl, HB.out⟩
      case round =>
        clear HB HW
        obtain ⟨j, hj, rfl, hb⟩ := hrel
        have HB := Lib.hid hb
        clear hb
        by_cases hlt : j < n
        · have hltI : (j : Int) < (n : Int) := by omega
          go_wp2
          go_ret
          exact ⟨rfl, HB.out⟩
        · have hltI : ¬ (j : Int) < (n : Int) := by omega
          go_wp2
          go_ret
          exact ⟨rfl, HB.out⟩
    · have hPn : P < n := by have := Hl.out; omega
      have hQn : Q < n := by have := Hl.out; omega
      have hPI : (P : Int) < (n : Int) := by omega
      have hQI : (Q : Int) < (n : Int) := by omega
      have HPQ := Lib.hid hPQ
      have HA := Lib.hid hall
      clear hPQ hall
      go_wp2
      go_loopw [13] (fun i wl => ∃ j : Nat, j ≤ n ∧ i = .int .i64 j ∧ RdPthWayS wl (.slice A n c) ws ∧ Below w.heap.size w wl) (fun i _ => n - (intOf i).toNat)
      case atStart => exact ⟨0, by omega, rfl, HW.out, HB.out⟩
      case round =>
        clear HB HW
        obtain ⟨j, hj, rfl, hk, hb⟩ := hrel
        have HW := Lib.hid hk
        have HB := Lib.hid hb
        clear hk hb
        by_cases hlt : j < n
        · have hltI : (j : Int) < (n : Int) := by omega
          obtain ⟨ad, cs, hkj, rfl, hcl, hca, hE⟩ := RdS.at_ HW.out hlt
          have hE : cs = _ := hE
          subst hE
          have cj := hca.ci 0 rfl
          obtain ⟨ad2, cs2, hkQ, e2, hclQ, hcaQ, hEQ⟩ := RdS.at_ HW.out hQn
          injection e2 with e2
          subst e2
          have hEQ : cs2 = _ := hEQ
          subst hEQ
          have cQ := hcaQ.ci 0 rfl
          obtain ⟨ad3, cs3, hkP, e3, hclP, hcaP, hEP⟩ := RdS.at_ HW.out hPn
          injection e3 with e3
          subst e3
          have hEP : cs3 = _ := hEP
          subst hEP
          have cP := hcaP.ci 0 rfl
          have hs1 := HA.out j ws[j] ws[Q] (List.getElem?_eq_getElem hkj) (List.getElem?_eq_getElem hkQ)
          have hs2 := HPQ.out ws[P] (List.getElem?_eq_getElem hkP)
          clear hca hcl hcaQ hclQ hcaP hclP
          generalize ws[j].xOn = oj at *
          generalize ws[Q].xOn = oQ at *
          generalize ws[P].xOn = oP at *
          rcases oj with _ | _
          all_goals
            rcases oQ with _ | _
            all_goals first
              | exact absurd (hs1 rfl) Bool.false_ne_true
              | (rcases oP with _ | _
                 all_goals first
                   | (have hqp : Q = P := hs2 rfl
                      have eqp : ((Q : Int) == (P : Int)) = true := by simp [hqp]
                      clear hs1 hs2 hqp HP HPQ HA
                      go_wp2
                      exact ⟨⟨j + 1, by omega, by go_num, HW.out, HB.out⟩, by simp [intOf]; omega⟩)
                   | (clear hs1 hs2 HP HPQ HA
                      go_wp2
                      exact ⟨⟨j + 1, by omega, by go_num, HW.out, HB.out⟩, by simp [intOf]; omega⟩))
        · have hltI : ¬ (j : Int) < (n : Int) := by omega
          go_wp2
          go_ret
          exact ⟨rfl, HB.out⟩
set_option maxRecDepth 100000 in
theorem fnWays_lifted (os : Os) (started : os.Started) (H : Type) (enc : TypeId × Value → H) :
    ReturnsInHanded {} Try.checked os 3 .any (Rows.fnWaysSpec.pre6 enc Try.prog Try.f3 Rows.fnWaysRow.domain false) (Rows.fnWaysSpec.post enc Try.prog Try.f3 false true false false) := by
  refine returnsInHanded_of_change (C := Try.checked) ownKnob_none started (by kernel_rfl) Try.func3
    (ChangeSpec.witness6 (enc := enc) (C := Try.checked) false ⟨#[], #[.slice none 0 0, .slice none 0 0], []⟩ 8 (by kernel_rfl) (by kernel_rfl) (by kernel_rfl) (by kernel_rfl)) ?_
  intro W base args ds gs before hval hW _ _
  have hW' := hW
  obtain ⟨p, q, hA, _⟩ := hW
  have hA' : DataW.TrodAll enc Try.prog W 0 (fun _ => true) true [22, 22] args.toList ds p := hA
  obtain ⟨v0, vs0, d0, ds0, p0, q0, hargs, rfl, rfl, h0, r0⟩ := trodAll_cons hA'
  obtain ⟨v1, vs1, d1, ds1, p1, q1, rfl, rfl, rfl, h1, r1⟩ := trodAll_cons r0
  obtain ⟨rfl, rfl, rfl⟩ := trodAll_nil r1
  obtain rfl : args = #[v0, v1] := by cases args; simp_all
  obtain ⟨x0, hx0⟩ := open_bytes (hval 0 22 v0 rfl rfl) h0
  obtain ⟨x1, hx1⟩ := open_bytes (hval 1 22 v1 rfl rfl) h1
  refine (lawFnWays v0 x0 v1 x1 W hx0 hx1).mono fun e W' ⟨he, hb⟩ => ?_
  subst he
  exact ⟨_, rfl, law_post (tb := 4) laidOut (by decide +kernel) rfl rfl Try.underlying4 (by rintro _ rfl; rfl) hW' hb⟩

theorem fnWays_proved : Rows.FnWaysSaid :=
  OpenClaim.holds_of_wide 3 Try.f3 rfl rfl rfl rfl rfl rfl rfl ⟨rfl, rfl, rfl, rfl, rfl⟩ rfl rfl rfl rfl rfl (by kernel_rfl) Try.func3 fnWays_closed
    (of_decide_eq_true (by kernel_rfl)) (by unfold Func.isWrapper; first | (rw [if_pos (by decide +kernel)]; kernel_rfl) | (rw [if_neg (by decide +kernel)]; exact ⟨rfl, rfl⟩))
    (fun os started H enc _ => fnWays_lifted os started H enc)
#print axioms fnWays_proved
end Go.Proofs.Ythdjjgbjemaabaa
