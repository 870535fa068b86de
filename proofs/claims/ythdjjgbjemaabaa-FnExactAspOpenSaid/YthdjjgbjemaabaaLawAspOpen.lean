/-
  AspOpen of the program answers at every argument as the model's AspOpen, writes nothing into its arguments, and its answer is memory of its own (Rows.FnExactAspOpenSaid). No condition. (Written by wip/tools/genlawx.py.)
-/
import Derived.Test.YthdjjgbjemaabaaBookO
import Derived.Test.YthdjjgbjemaabaaBookP
import Derived.Test.YthdjjgbjemaabaaClAspOpen
import Derived.Test.YthdjjgbjemaabaaMkAspBook
import Derived.Test.YthdjjgbjemaabaaAppI
import Derived.Test.YthdjjgbjemaabaaRow
import Derived.ChangeSame
import Derived.Deep.RegionHeld3
namespace Go.Proofs.Ythdjjgbjemaabaa
open Go.ChangeShapes Go.WideShapes Go.ChangeAt Go.RowKit
set_option linter.unusedVariables false
set_option linter.unusedSimpArgs false

theorem smz_AspGate (xs : List DAspGate) : szL smAspGate xs ≤ 64 * (zL zAspGate xs) := by
  induction xs with
  | nil => simp [szL]
  | cons x xs ih =>
    have h1 : smAspGate x ≤ 64 * (1 + zAspGate x) := by
      simp only [smAspGate, zAspGate]; omega
    simp only [zL, szL, List.length_cons] at ih ⊢; omega
set_option maxRecDepth 100000 in
set_option maxHeartbeats 8000000 in
theorem lawAspOpen (v0 : Value) (wi : List Int) (v1 : Value) (ga : List Int) (w : World) (h0 : RdI w v0 wi) (h1 : RdI w v1 ga) : Calls Try.prog 4 #[v0, v1] w fun e w' => e = .returned (.bool true) ∧ Below w.heap.size w w' := by
  obtain ⟨A0, c0, rfl⟩ := id h0.slice
  have R0 := Lib.hid h0
  clear h0
  obtain ⟨A1, c1, rfl⟩ := id h1.slice
  have R1 := Lib.hid h1
  clear h1
  rcases Nat.lt_or_ge 1048576 wi.length with hb | hb
  · generalize wi.length = nn at *
    go_enter Try.func4, Try.ntmps4
    go_wp2
    go_ret
    exact ⟨rfl, by repeat first | with_reducible exact Below.refl _ _ | with_reducible refine Below.alloc ?_ (by simp <;> omega) _⟩
  have N0 := Lib.hid hb
  generalize hl0 : wi.length = n0 at *
  have L0 := Lib.hid hl0
  clear hl0
  rcases Nat.lt_or_ge 1048576 ga.length with hb | hb
  · generalize ga.length = nn at *
    go_enter Try.func4, Try.ntmps4
    go_wp2
    go_ret
    exact ⟨rfl, by repeat first | with_reducible exact Below.refl _ _ | with_reducible refine Below.alloc ?_ (by simp <;> omega) _⟩
  have N1 := Lib.hid hb
  generalize hl1 : ga.length = n1 at *
  have L1 := Lib.hid hl1
  clear hl1
  have HB := Lib.hid (Below.refl w.heap.size w)
  go_enter Try.func4, Try.ntmps4
  obtain bd0 := aspOpen_bd wi ga (by rw [L0.out]; exact N0.out) (by rw [L1.out]; exact N1.out)
  have BD0 := Lib.hid bd0
  have BM0 := Lib.hid (show saAspBook (aspOpenF wi ga) ≤ 67108864 by have := smz_AspGate (aspOpenF wi ga).xGates; simp only [saAspBook, zAspBook] at bd0 ⊢; omega)
  clear bd0
  have BX0 := Lib.hid (show n0 ≤ 67108864 by have := N0.out; omega)
  have BX1 := Lib.hid (show n1 ≤ 67108864 by have := N1.out; omega)
  go_wp2_with fail
  refine (toIntS_n _ wi _ (R0.out.below HB.out) (by rw [L0.out]; exact N0.out)).mono ?_
  rintro e wt1 ⟨Uv0, Uf0, rfl, Uo0, Un0, bwt1⟩
  have Swt1 := Lib.hid bwt1.size
  replace HB := Lib.hid (HB.out.trans (bwt1.mono HB.out.size))
  have U0 := Lib.hid Uo0.rd
  clear Uo0 Un0 bwt1
  go_wp2_with fail
  refine (toIntS_n _ ga _ (R1.out.below HB.out) (by rw [L1.out]; exact N1.out)).mono ?_
  rintro e wt2 ⟨Uv1, Uf1, rfl, Uo1, Un1, bwt2⟩
  have Swt2 := Lib.hid bwt2.size
  replace U0 := Lib.hid (U0.out.below bwt2)
  replace HB := Lib.hid (HB.out.trans (bwt2.mono HB.out.size))
  have U1 := Lib.hid Uo1.rd
  clear Uo1 Un1 bwt2
  go_wp2_with fail
  refine (specAspOpen_n _ wi _ ga _ U0.out (by rw [L0.out]; exact N0.out) U1.out (by rw [L1.out]; exact N1.out)).mono ?_
  rintro e w3 ⟨Wv0, Wf0, rfl, Wo0, Wn, bw3⟩
  have Sw3 := Lib.hid bw3.size
  replace U0 := Lib.hid (U0.out.below bw3)
  replace U1 := Lib.hid (U1.out.below bw3)
  replace HB := Lib.hid (HB.out.trans (bw3.mono HB.out.size))
  clear bw3
  have WN := Lib.hid Wn
  clear Wn
  have W0 := Lib.hid Wo0
  obtain ⟨Wu0_0, Wu0_1, Wg0_0, Wg0_1, rfl, Wp0_0, Wp0_1, rfl⟩ := Wo0
  obtain ⟨W0A0, W0c0, rfl⟩ :=  Wp0_0.rd.slice
  clear Wp0_0
  obtain ⟨W0A1, W0c1, rfl⟩ := OwL.slice Wp0_1
  clear Wp0_1
  have WB0 := Lib.hid (Blk.new (w := w3) (b := w3.heap.size) #[.slice W0A0 (aspOpenF wi ga).xWish.length W0c0, .slice W0A1 (aspOpenF wi ga).xGates.length W0c1] 38 rfl)
  have bx := (Below.refl w3.heap.size w3).alloc (Nat.le_refl _) (.cells #[.slice W0A0 (aspOpenF wi ga).xWish.length W0c0, .slice W0A1 (aspOpenF wi ga).xGates.length W0c1] 38)
  replace U0 := Lib.hid (U0.out.below bx)
  replace U1 := Lib.hid (U1.out.below bx)
  replace W0 := Lib.hid (EAspBook.framed _ _ _ _ _ W0.out (fun b hb => bx.block b (EAspBook.inside _ _ _ _ W0.out b hb)))
  replace HB := Lib.hid (HB.out.trans (bx.mono HB.out.size))
  clear bx
  have SW0 := Lib.hid (show w3.heap.size + 1 = (World.alloc w3 (.cells #[.slice W0A0 (aspOpenF wi ga).xWish.length W0c0, .slice W0A1 (aspOpenF wi ga).xGates.length W0c1] 38)).heap.size by simp)
  clear U0
  clear U1
  go_wp2_with fail
  refine (toIntS_n _ wi _ (R0.out.below HB.out) (by rw [L0.out]; exact N0.out)).mono ?_
  rintro e wt3 ⟨Xv0, Xf0, rfl, Xo0, Xn0, bwt3⟩
  have Swt3 := Lib.hid bwt3.size
  replace W0 := Lib.hid (EAspBook.framed _ _ _ _ _ W0.out (fun b hb => bwt3.block b (EAspBook.inside _ _ _ _ W0.out b hb)))
  replace WB0 := Lib.hid (WB0.out.keep bwt3)
  replace HB := Lib.hid (HB.out.trans (bwt3.mono HB.out.size))
  have X0 := Lib.hid Xo0
  have XW0 := Lib.hid Xn0
  clear Xo0 Xn0 bwt3
  go_wp2_with fail
  refine (toIntS_n _ ga _ (R1.out.below HB.out) (by rw [L1.out]; exact N1.out)).mono ?_
  rintro e wt4 ⟨Xv1, Xf1, rfl, Xo1, Xn1, bwt4⟩
  have Swt4 := Lib.hid bwt4.size
  replace W0 := Lib.hid (EAspBook.framed _ _ _ _ _ W0.out (fun b hb => bwt4.block b (EAspBook.inside _ _ _ _ W0.out b hb)))
  replace WB0 := Lib.hid (WB0.out.keep bwt4)
  replace X0 := Lib.hid (X0.out.keep (fun b hb => bwt4.block b (X0.out.inside b hb)))
  replace HB := Lib.hid (HB.out.trans (bwt4.mono HB.out.size))
  have X1 := Lib.hid Xo1
  have XW1 := Lib.hid Xn1
  clear Xo1 Xn1 bwt4
  go_wp2_with fail
  refine (implAspOpen_n _ wi _ ga _ X0.out.rd (by rw [L0.out]; exact N0.out) X1.out.rd (by rw [L1.out]; exact N1.out)).mono ?_
  rintro e w5 ⟨Gv0, Gf0, rfl, Go0, Gn, bw5⟩
  have Sw5 := Lib.hid bw5.size
  replace W0 := Lib.hid (EAspBook.framed _ _ _ _ _ W0.out (fun b hb => bw5.block b (EAspBook.inside _ _ _ _ W0.out b hb)))
  replace WB0 := Lib.hid (WB0.out.keep bw5)
  replace X0 := Lib.hid (X0.out.keep (fun b hb => bw5.block b (X0.out.inside b hb)))
  replace X1 := Lib.hid (X1.out.keep (fun b hb => bw5.block b (X1.out.inside b hb)))
  replace HB := Lib.hid (HB.out.trans (bw5.mono HB.out.size))
  clear bw5
  have GN := Lib.hid Gn
  clear Gn
  have G0 := Lib.hid Go0
  obtain ⟨Gu0_0, Gu0_1, Gg0_0, Gg0_1, rfl, Gp0_0, Gp0_1, rfl⟩ := Go0
  obtain ⟨G0A0, G0c0, rfl⟩ :=  Gp0_0.rd.slice
  clear Gp0_0
  obtain ⟨G0A1, G0c1, rfl⟩ := OwL.slice Gp0_1
  clear Gp0_1
  have GB0 := Lib.hid (Blk.new (w := w5) (b := w5.heap.size) #[.slice G0A0 (aspOpenF wi ga).xWish.length G0c0, .slice G0A1 (aspOpenF wi ga).xGates.length G0c1] 38 rfl)
  have bx := (Below.refl w5.heap.size w5).alloc (Nat.le_refl _) (.cells #[.slice G0A0 (aspOpenF wi ga).xWish.length G0c0, .slice G0A1 (aspOpenF wi ga).xGates.length G0c1] 38)
  replace W0 := Lib.hid (EAspBook.framed _ _ _ _ _ W0.out (fun b hb => bx.block b (EAspBook.inside _ _ _ _ W0.out b hb)))
  replace WB0 := Lib.hid (WB0.out.keep bx)
  replace X0 := Lib.hid (X0.out.keep (fun b hb => bx.block b (X0.out.inside b hb)))
  replace X1 := Lib.hid (X1.out.keep (fun b hb => bx.block b (X1.out.inside b hb)))
  replace G0 := Lib.hid (EAspBook.framed _ _ _ _ _ G0.out (fun b hb => bx.block b (EAspBook.inside _ _ _ _ G0.out b hb)))
  replace HB := Lib.hid (HB.out.trans (bx.mono HB.out.size))
  clear bx
  have SG0 := Lib.hid (show w5.heap.size + 1 = (World.alloc w5 (.cells #[.slice G0A0 (aspOpenF wi ga).xWish.length G0c0, .slice G0A1 (aspOpenF wi ga).xGates.length G0c1] 38)).heap.size by simp)
  have ea0 := GB0.out.at (i := 0) rfl
  have ea1 := GB0.out.at (i := 1) rfl
  have eb0 := WB0.out.at (i := 0) rfl
  have eb1 := WB0.out.at (i := 1) rfl
  go_wp2_with fail
  refine (eqAspBook_s _ _ (aspOpenF wi ga) _ G0.out.rd W0.out.rd BD0.out).mono ?_
  rintro e we1 ⟨rfl, bwe1⟩
  have Swe1 := Lib.hid bwe1.size
  replace W0 := Lib.hid (EAspBook.framed _ _ _ _ _ W0.out (fun b hb => bwe1.block b (EAspBook.inside _ _ _ _ W0.out b hb)))
  replace WB0 := Lib.hid (WB0.out.keep bwe1)
  replace X0 := Lib.hid (X0.out.keep (fun b hb => bwe1.block b (X0.out.inside b hb)))
  replace X1 := Lib.hid (X1.out.keep (fun b hb => bwe1.block b (X1.out.inside b hb)))
  replace G0 := Lib.hid (EAspBook.framed _ _ _ _ _ G0.out (fun b hb => bwe1.block b (EAspBook.inside _ _ _ _ G0.out b hb)))
  replace GB0 := Lib.hid (GB0.out.keep bwe1)
  replace HB := Lib.hid (HB.out.trans (bwe1.mono HB.out.size))
  clear bwe1
  clear ea0 ea1
  clear eb0 eb1
  go_wp2_with fail
  refine (toIntS_n _ wi _ (R0.out.below HB.out) (by rw [L0.out]; exact N0.out)).mono ?_
  rintro e wt5 ⟨Yv0, Yf0, rfl, Yo0, Yn0, bwt5⟩
  have Swt5 := Lib.hid bwt5.size
  replace W0 := Lib.hid (EAspBook.framed _ _ _ _ _ W0.out (fun b hb => bwt5.block b (EAspBook.inside _ _ _ _ W0.out b hb)))
  replace WB0 := Lib.hid (WB0.out.keep bwt5)
  replace X0 := Lib.hid (X0.out.keep (fun b hb => bwt5.block b (X0.out.inside b hb)))
  replace X1 := Lib.hid (X1.out.keep (fun b hb => bwt5.block b (X1.out.inside b hb)))
  replace G0 := Lib.hid (EAspBook.framed _ _ _ _ _ G0.out (fun b hb => bwt5.block b (EAspBook.inside _ _ _ _ G0.out b hb)))
  replace GB0 := Lib.hid (GB0.out.keep bwt5)
  replace HB := Lib.hid (HB.out.trans (bwt5.mono HB.out.size))
  have Y0 := Lib.hid Yo0.rd
  clear Yo0 Yn0 bwt5
  go_wp2_with fail
  refine (eqIntS_s _ _ wi _ X0.out.rd Y0.out (by rw [L0.out]; exact N0.out)).mono ?_
  rintro e we2 ⟨rfl, bwe2⟩
  have Swe2 := Lib.hid bwe2.size
  replace W0 := Lib.hid (EAspBook.framed _ _ _ _ _ W0.out (fun b hb => bwe2.block b (EAspBook.inside _ _ _ _ W0.out b hb)))
  replace WB0 := Lib.hid (WB0.out.keep bwe2)
  replace X0 := Lib.hid (X0.out.keep (fun b hb => bwe2.block b (X0.out.inside b hb)))
  replace X1 := Lib.hid (X1.out.keep (fun b hb => bwe2.block b (X1.out.inside b hb)))
  replace G0 := Lib.hid (EAspBook.framed _ _ _ _ _ G0.out (fun b hb => bwe2.block b (EAspBook.inside _ _ _ _ G0.out b hb)))
  replace GB0 := Lib.hid (GB0.out.keep bwe2)
  replace Y0 := Lib.hid (Y0.out.below bwe2)
  replace HB := Lib.hid (HB.out.trans (bwe2.mono HB.out.size))
  clear bwe2
  clear Y0
  go_wp2_with fail
  refine (toIntS_n _ ga _ (R1.out.below HB.out) (by rw [L1.out]; exact N1.out)).mono ?_
  rintro e wt6 ⟨Yv1, Yf1, rfl, Yo1, Yn1, bwt6⟩
  have Swt6 := Lib.hid bwt6.size
  replace W0 := Lib.hid (EAspBook.framed _ _ _ _ _ W0.out (fun b hb => bwt6.block b (EAspBook.inside _ _ _ _ W0.out b hb)))
  replace WB0 := Lib.hid (WB0.out.keep bwt6)
  replace X0 := Lib.hid (X0.out.keep (fun b hb => bwt6.block b (X0.out.inside b hb)))
  replace X1 := Lib.hid (X1.out.keep (fun b hb => bwt6.block b (X1.out.inside b hb)))
  replace G0 := Lib.hid (EAspBook.framed _ _ _ _ _ G0.out (fun b hb => bwt6.block b (EAspBook.inside _ _ _ _ G0.out b hb)))
  replace GB0 := Lib.hid (GB0.out.keep bwt6)
  replace HB := Lib.hid (HB.out.trans (bwt6.mono HB.out.size))
  have Y1 := Lib.hid Yo1.rd
  clear Yo1 Yn1 bwt6
  go_wp2_with fail
  refine (eqIntS_s _ _ ga _ X1.out.rd Y1.out (by rw [L1.out]; exact N1.out)).mono ?_
  rintro e we3 ⟨rfl, bwe3⟩
  have Swe3 := Lib.hid bwe3.size
  replace W0 := Lib.hid (EAspBook.framed _ _ _ _ _ W0.out (fun b hb => bwe3.block b (EAspBook.inside _ _ _ _ W0.out b hb)))
  replace WB0 := Lib.hid (WB0.out.keep bwe3)
  replace X0 := Lib.hid (X0.out.keep (fun b hb => bwe3.block b (X0.out.inside b hb)))
  replace X1 := Lib.hid (X1.out.keep (fun b hb => bwe3.block b (X1.out.inside b hb)))
  replace G0 := Lib.hid (EAspBook.framed _ _ _ _ _ G0.out (fun b hb => bwe3.block b (EAspBook.inside _ _ _ _ G0.out b hb)))
  replace GB0 := Lib.hid (GB0.out.keep bwe3)
  replace Y1 := Lib.hid (Y1.out.below bwe3)
  replace HB := Lib.hid (HB.out.trans (bwe3.mono HB.out.size))
  clear bwe3
  clear Y1
  go_wp2_with fail
  refine (markIntS_m Xf0 _ (1) wi _ X0.out (by rw [L0.out]; have := N0.out; omega) ⟨by omega, by have := BX0.out; have := BX1.out; omega⟩).mono ?_
  rintro e wx0 ⟨rfl, owx0, rwx0⟩
  rw [L0.out]
  have Swx0 := Lib.hid rwx0.size
  replace W0 := Lib.hid (EAspBook.framed _ _ _ _ _ W0.out (fun b hb => rwx0.block b (EAspBook.inside _ _ _ _ W0.out b hb) ((WN.out.far XW0.out (by have := Swt1.out; have := Swt2.out; have := Sw3.out; have := SW0.out; have := Swt3.out; have := Swt4.out; have := Sw5.out; have := SG0.out; have := Swe1.out; have := Swt5.out; have := Swe2.out; have := Swt6.out; have := Swe3.out; have := Swx0.out; first | omega | (simp; omega))) b hb)))
  replace WB0 := Lib.hid (WB0.out.frl rwx0 (XW0.out.notin (by have := Swt1.out; have := Swt2.out; have := Sw3.out; have := SW0.out; have := Swt3.out; have := Swt4.out; have := Sw5.out; have := SG0.out; have := Swe1.out; have := Swt5.out; have := Swe2.out; have := Swt6.out; have := Swe3.out; have := Swx0.out; first | omega | (simp; omega))))
  replace X1 := Lib.hid (X1.out.keep (fun b hb => rwx0.block b (X1.out.inside b hb) ((XW1.out.far XW0.out (by have := Swt1.out; have := Swt2.out; have := Sw3.out; have := SW0.out; have := Swt3.out; have := Swt4.out; have := Sw5.out; have := SG0.out; have := Swe1.out; have := Swt5.out; have := Swe2.out; have := Swt6.out; have := Swe3.out; have := Swx0.out; first | omega | (simp; omega))) b hb)))
  replace G0 := Lib.hid (EAspBook.framed _ _ _ _ _ G0.out (fun b hb => rwx0.block b (EAspBook.inside _ _ _ _ G0.out b hb) ((GN.out.far XW0.out (by have := Swt1.out; have := Swt2.out; have := Sw3.out; have := SW0.out; have := Swt3.out; have := Swt4.out; have := Sw5.out; have := SG0.out; have := Swe1.out; have := Swt5.out; have := Swe2.out; have := Swt6.out; have := Swe3.out; have := Swx0.out; first | omega | (simp; omega))) b hb)))
  replace GB0 := Lib.hid (GB0.out.frl rwx0 (XW0.out.notin (by have := Swt1.out; have := Swt2.out; have := Sw3.out; have := SW0.out; have := Swt3.out; have := Swt4.out; have := Sw5.out; have := SG0.out; have := Swe1.out; have := Swt5.out; have := Swe2.out; have := Swt6.out; have := Swe3.out; have := Swx0.out; first | omega | (simp; omega))))
  replace HB := Lib.hid (HB.out.trans (rwx0.belowNw XW0.out (by have := Swt1.out; have := Swt2.out; have := Sw3.out; have := SW0.out; have := Swt3.out; have := Swt4.out; have := Sw5.out; have := SG0.out; have := Swe1.out; have := Swt5.out; have := Swe2.out; have := Swt6.out; have := Swe3.out; have := Swx0.out; first | omega | (simp; omega)) HB.out.size))
  clear owx0 rwx0 X0
  go_wp2_with fail
  refine (markIntS_m Xf1 _ (1 + ((n0 : Nat) : Int)) ga _ X1.out (by rw [L1.out]; have := N1.out; omega) ⟨by omega, by have := BX0.out; have := BX1.out; omega⟩).mono ?_
  rintro e wx1 ⟨rfl, owx1, rwx1⟩
  rw [L1.out]
  have Swx1 := Lib.hid rwx1.size
  replace W0 := Lib.hid (EAspBook.framed _ _ _ _ _ W0.out (fun b hb => rwx1.block b (EAspBook.inside _ _ _ _ W0.out b hb) ((WN.out.far XW1.out (by have := Swt1.out; have := Swt2.out; have := Sw3.out; have := SW0.out; have := Swt3.out; have := Swt4.out; have := Sw5.out; have := SG0.out; have := Swe1.out; have := Swt5.out; have := Swe2.out; have := Swt6.out; have := Swe3.out; have := Swx0.out; have := Swx1.out; first | omega | (simp; omega))) b hb)))
  replace WB0 := Lib.hid (WB0.out.frl rwx1 (XW1.out.notin (by have := Swt1.out; have := Swt2.out; have := Sw3.out; have := SW0.out; have := Swt3.out; have := Swt4.out; have := Sw5.out; have := SG0.out; have := Swe1.out; have := Swt5.out; have := Swe2.out; have := Swt6.out; have := Swe3.out; have := Swx0.out; have := Swx1.out; first | omega | (simp; omega))))
  replace G0 := Lib.hid (EAspBook.framed _ _ _ _ _ G0.out (fun b hb => rwx1.block b (EAspBook.inside _ _ _ _ G0.out b hb) ((GN.out.far XW1.out (by have := Swt1.out; have := Swt2.out; have := Sw3.out; have := SW0.out; have := Swt3.out; have := Swt4.out; have := Sw5.out; have := SG0.out; have := Swe1.out; have := Swt5.out; have := Swe2.out; have := Swt6.out; have := Swe3.out; have := Swx0.out; have := Swx1.out; first | omega | (simp; omega))) b hb)))
  replace GB0 := Lib.hid (GB0.out.frl rwx1 (XW1.out.notin (by have := Swt1.out; have := Swt2.out; have := Sw3.out; have := SW0.out; have := Swt3.out; have := Swt4.out; have := Sw5.out; have := SG0.out; have := Swe1.out; have := Swt5.out; have := Swe2.out; have := Swt6.out; have := Swe3.out; have := Swx0.out; have := Swx1.out; first | omega | (simp; omega))))
  replace HB := Lib.hid (HB.out.trans (rwx1.belowNw XW1.out (by have := Swt1.out; have := Swt2.out; have := Sw3.out; have := SW0.out; have := Swt3.out; have := Swt4.out; have := Sw5.out; have := SG0.out; have := Swe1.out; have := Swt5.out; have := Swe2.out; have := Swt6.out; have := Swe3.out; have := Swx0.out; have := Swx1.out; first | omega | (simp; omega)) HB.out.size))
  clear owx1 rwx1 X1
  have ea0 := GB0.out.at (i := 0) rfl
  have ea1 := GB0.out.at (i := 1) rfl
  have eb0 := WB0.out.at (i := 0) rfl
  have eb1 := WB0.out.at (i := 1) rfl
  go_wp2_with fail
  refine (eqAspBook_s _ _ (aspOpenF wi ga) _ G0.out.rd W0.out.rd BD0.out).mono ?_
  rintro e we4 ⟨rfl, bwe4⟩
  have Swe4 := Lib.hid bwe4.size
  replace W0 := Lib.hid (EAspBook.framed _ _ _ _ _ W0.out (fun b hb => bwe4.block b (EAspBook.inside _ _ _ _ W0.out b hb)))
  replace WB0 := Lib.hid (WB0.out.keep bwe4)
  replace G0 := Lib.hid (EAspBook.framed _ _ _ _ _ G0.out (fun b hb => bwe4.block b (EAspBook.inside _ _ _ _ G0.out b hb)))
  replace GB0 := Lib.hid (GB0.out.keep bwe4)
  replace HB := Lib.hid (HB.out.trans (bwe4.mono HB.out.size))
  clear bwe4
  clear ea0 ea1
  clear eb0 eb1
  have pg0 := GB0.out.at (i := 0) rfl
  have pg1 := GB0.out.at (i := 1) rfl
  go_wp2_with fail
  refine (markAspBook_m (Gg0_0 ++ Gg0_1) _ (1) (aspOpenF wi ga) _ G0.out GN.out.1 (by omega) (by have := BM0.out; omega)).mono ?_
  rintro e wm0 ⟨rfl, owm0, rwm0⟩
  have Swm0 := Lib.hid rwm0.size
  replace W0 := Lib.hid (EAspBook.framed _ _ _ _ _ W0.out (fun b hb => rwm0.block b (EAspBook.inside _ _ _ _ W0.out b hb) ((WN.out.far GN.out (by have := Swt1.out; have := Swt2.out; have := Sw3.out; have := SW0.out; have := Swt3.out; have := Swt4.out; have := Sw5.out; have := SG0.out; have := Swe1.out; have := Swt5.out; have := Swe2.out; have := Swt6.out; have := Swe3.out; have := Swx0.out; have := Swx1.out; have := Swe4.out; have := Swm0.out; first | omega | (simp; omega))) b hb)))
  replace WB0 := Lib.hid (WB0.out.frl rwm0 (GN.out.notin (by have := Swt1.out; have := Swt2.out; have := Sw3.out; have := SW0.out; have := Swt3.out; have := Swt4.out; have := Sw5.out; have := SG0.out; have := Swe1.out; have := Swt5.out; have := Swe2.out; have := Swt6.out; have := Swe3.out; have := Swx0.out; have := Swx1.out; have := Swe4.out; have := Swm0.out; first | omega | (simp; omega))))
  replace GB0 := Lib.hid (GB0.out.frl rwm0 (GN.out.notin (by have := Swt1.out; have := Swt2.out; have := Sw3.out; have := SW0.out; have := Swt3.out; have := Swt4.out; have := Sw5.out; have := SG0.out; have := Swe1.out; have := Swt5.out; have := Swe2.out; have := Swt6.out; have := Swe3.out; have := Swx0.out; have := Swx1.out; have := Swe4.out; have := Swm0.out; first | omega | (simp; omega))))
  replace HB := Lib.hid (HB.out.trans (rwm0.belowNw GN.out (by have := Swt1.out; have := Swt2.out; have := Sw3.out; have := SW0.out; have := Swt3.out; have := Swt4.out; have := Sw5.out; have := SG0.out; have := Swe1.out; have := Swt5.out; have := Swe2.out; have := Swt6.out; have := Swe3.out; have := Swx0.out; have := Swx1.out; have := Swe4.out; have := Swm0.out; first | omega | (simp; omega)) HB.out.size))
  replace G0 := Lib.hid owm0
  clear owm0 rwm0
  clear pg0 pg1
  have pg0 := GB0.out.at (i := 0) rfl
  have pg1 := GB0.out.at (i := 1) rfl
  go_wp2_with fail
  refine (heldAspBook_h _ (1) (aspOpenF wi ga) _ G0.out.rd (by omega) (by have := BM0.out; omega)).mono ?_
  rintro e wh1 ⟨rfl, bwh1⟩
  have Swh1 := Lib.hid bwh1.size
  replace W0 := Lib.hid (EAspBook.framed _ _ _ _ _ W0.out (fun b hb => bwh1.block b (EAspBook.inside _ _ _ _ W0.out b hb)))
  replace WB0 := Lib.hid (WB0.out.keep bwh1)
  replace G0 := Lib.hid (EAspBook.framed _ _ _ _ _ G0.out (fun b hb => bwh1.block b (EAspBook.inside _ _ _ _ G0.out b hb)))
  replace GB0 := Lib.hid (GB0.out.keep bwh1)
  replace HB := Lib.hid (HB.out.trans (bwh1.mono HB.out.size))
  clear bwh1
  clear pg0 pg1
  go_wp2_with fail
  refine (toIntS_n _ wi _ (R0.out.below HB.out) (by rw [L0.out]; exact N0.out)).mono ?_
  rintro e wt7 ⟨Zv0, Zf0, rfl, Zo0, Zn0, bwt7⟩
  have Swt7 := Lib.hid bwt7.size
  replace W0 := Lib.hid (EAspBook.framed _ _ _ _ _ W0.out (fun b hb => bwt7.block b (EAspBook.inside _ _ _ _ W0.out b hb)))
  replace WB0 := Lib.hid (WB0.out.keep bwt7)
  replace G0 := Lib.hid (EAspBook.framed _ _ _ _ _ G0.out (fun b hb => bwt7.block b (EAspBook.inside _ _ _ _ G0.out b hb)))
  replace GB0 := Lib.hid (GB0.out.keep bwt7)
  replace HB := Lib.hid (HB.out.trans (bwt7.mono HB.out.size))
  have Z0 := Lib.hid Zo0.rd
  clear Zo0 Zn0 bwt7
  go_wp2_with fail
  refine (toIntS_n _ ga _ (R1.out.below HB.out) (by rw [L1.out]; exact N1.out)).mono ?_
  rintro e wt8 ⟨Zv1, Zf1, rfl, Zo1, Zn1, bwt8⟩
  have Swt8 := Lib.hid bwt8.size
  replace W0 := Lib.hid (EAspBook.framed _ _ _ _ _ W0.out (fun b hb => bwt8.block b (EAspBook.inside _ _ _ _ W0.out b hb)))
  replace WB0 := Lib.hid (WB0.out.keep bwt8)
  replace G0 := Lib.hid (EAspBook.framed _ _ _ _ _ G0.out (fun b hb => bwt8.block b (EAspBook.inside _ _ _ _ G0.out b hb)))
  replace GB0 := Lib.hid (GB0.out.keep bwt8)
  replace Z0 := Lib.hid (Z0.out.below bwt8)
  replace HB := Lib.hid (HB.out.trans (bwt8.mono HB.out.size))
  have Z1 := Lib.hid Zo1.rd
  clear Zo1 Zn1 bwt8
  go_wp2_with fail
  refine (implAspOpen_n _ wi _ ga _ Z0.out (by rw [L0.out]; exact N0.out) Z1.out (by rw [L1.out]; exact N1.out)).mono ?_
  rintro e w10 ⟨Hv0, Hf0, rfl, Ho0, Hn, bw10⟩
  have Sw10 := Lib.hid bw10.size
  replace W0 := Lib.hid (EAspBook.framed _ _ _ _ _ W0.out (fun b hb => bw10.block b (EAspBook.inside _ _ _ _ W0.out b hb)))
  replace WB0 := Lib.hid (WB0.out.keep bw10)
  replace G0 := Lib.hid (EAspBook.framed _ _ _ _ _ G0.out (fun b hb => bw10.block b (EAspBook.inside _ _ _ _ G0.out b hb)))
  replace GB0 := Lib.hid (GB0.out.keep bw10)
  replace Z0 := Lib.hid (Z0.out.below bw10)
  replace Z1 := Lib.hid (Z1.out.below bw10)
  replace HB := Lib.hid (HB.out.trans (bw10.mono HB.out.size))
  clear bw10
  have HN := Lib.hid Hn
  clear Hn
  have H0 := Lib.hid Ho0
  obtain ⟨Hu0_0, Hu0_1, Hg0_0, Hg0_1, rfl, Hp0_0, Hp0_1, rfl⟩ := Ho0
  obtain ⟨H0A0, H0c0, rfl⟩ :=  Hp0_0.rd.slice
  clear Hp0_0
  obtain ⟨H0A1, H0c1, rfl⟩ := OwL.slice Hp0_1
  clear Hp0_1
  have HB0 := Lib.hid (Blk.new (w := w10) (b := w10.heap.size) #[.slice H0A0 (aspOpenF wi ga).xWish.length H0c0, .slice H0A1 (aspOpenF wi ga).xGates.length H0c1] 38 rfl)
  have bx := (Below.refl w10.heap.size w10).alloc (Nat.le_refl _) (.cells #[.slice H0A0 (aspOpenF wi ga).xWish.length H0c0, .slice H0A1 (aspOpenF wi ga).xGates.length H0c1] 38)
  replace W0 := Lib.hid (EAspBook.framed _ _ _ _ _ W0.out (fun b hb => bx.block b (EAspBook.inside _ _ _ _ W0.out b hb)))
  replace WB0 := Lib.hid (WB0.out.keep bx)
  replace G0 := Lib.hid (EAspBook.framed _ _ _ _ _ G0.out (fun b hb => bx.block b (EAspBook.inside _ _ _ _ G0.out b hb)))
  replace GB0 := Lib.hid (GB0.out.keep bx)
  replace Z0 := Lib.hid (Z0.out.below bx)
  replace Z1 := Lib.hid (Z1.out.below bx)
  replace H0 := Lib.hid (EAspBook.framed _ _ _ _ _ H0.out (fun b hb => bx.block b (EAspBook.inside _ _ _ _ H0.out b hb)))
  replace HB := Lib.hid (HB.out.trans (bx.mono HB.out.size))
  clear bx
  have SH0 := Lib.hid (show w10.heap.size + 1 = (World.alloc w10 (.cells #[.slice H0A0 (aspOpenF wi ga).xWish.length H0c0, .slice H0A1 (aspOpenF wi ga).xGates.length H0c1] 38)).heap.size by simp)
  clear Z0
  clear Z1
  have ea0 := HB0.out.at (i := 0) rfl
  have ea1 := HB0.out.at (i := 1) rfl
  have eb0 := WB0.out.at (i := 0) rfl
  have eb1 := WB0.out.at (i := 1) rfl
  go_wp2_with fail
  refine (eqAspBook_s _ _ (aspOpenF wi ga) _ H0.out.rd W0.out.rd BD0.out).mono ?_
  rintro e we5 ⟨rfl, bwe5⟩
  have Swe5 := Lib.hid bwe5.size
  replace W0 := Lib.hid (EAspBook.framed _ _ _ _ _ W0.out (fun b hb => bwe5.block b (EAspBook.inside _ _ _ _ W0.out b hb)))
  replace WB0 := Lib.hid (WB0.out.keep bwe5)
  replace G0 := Lib.hid (EAspBook.framed _ _ _ _ _ G0.out (fun b hb => bwe5.block b (EAspBook.inside _ _ _ _ G0.out b hb)))
  replace GB0 := Lib.hid (GB0.out.keep bwe5)
  replace H0 := Lib.hid (EAspBook.framed _ _ _ _ _ H0.out (fun b hb => bwe5.block b (EAspBook.inside _ _ _ _ H0.out b hb)))
  replace HB0 := Lib.hid (HB0.out.keep bwe5)
  replace HB := Lib.hid (HB.out.trans (bwe5.mono HB.out.size))
  clear bwe5
  clear ea0 ea1
  clear eb0 eb1
  have pg0 := GB0.out.at (i := 0) rfl
  have pg1 := GB0.out.at (i := 1) rfl
  go_wp2_with fail
  refine (heldAspBook_h _ (1) (aspOpenF wi ga) _ G0.out.rd (by omega) (by have := BM0.out; omega)).mono ?_
  rintro e wh2 ⟨rfl, bwh2⟩
  have Swh2 := Lib.hid bwh2.size
  replace W0 := Lib.hid (EAspBook.framed _ _ _ _ _ W0.out (fun b hb => bwh2.block b (EAspBook.inside _ _ _ _ W0.out b hb)))
  replace WB0 := Lib.hid (WB0.out.keep bwh2)
  replace G0 := Lib.hid (EAspBook.framed _ _ _ _ _ G0.out (fun b hb => bwh2.block b (EAspBook.inside _ _ _ _ G0.out b hb)))
  replace GB0 := Lib.hid (GB0.out.keep bwh2)
  replace H0 := Lib.hid (EAspBook.framed _ _ _ _ _ H0.out (fun b hb => bwh2.block b (EAspBook.inside _ _ _ _ H0.out b hb)))
  replace HB0 := Lib.hid (HB0.out.keep bwh2)
  replace HB := Lib.hid (HB.out.trans (bwh2.mono HB.out.size))
  clear bwh2
  clear pg0 pg1
  go_wp2
  go_ret
  exact ⟨rfl, HB.out⟩
set_option maxRecDepth 100000 in
theorem aspOpen_lifted (os : Os) (started : os.Started) (H : Type) (enc : TypeId × Value → H) :
    ReturnsInHanded {} Try.checked os 4 .any (Rows.fnExactAspOpenSpec.pre6 enc Try.prog Try.f4 Rows.fnExactAspOpenRow.domain false) (Rows.fnExactAspOpenSpec.post enc Try.prog Try.f4 false true false false) := by
  refine returnsInHanded_of_change (C := Try.checked) ownKnob_none started (by kernel_rfl) Try.func4
    (ChangeSpec.witness6 (enc := enc) (C := Try.checked) false ⟨#[], #[.slice none 0 0, .slice none 0 0], []⟩ 8 (by kernel_rfl) (by kernel_rfl) (by kernel_rfl) (by kernel_rfl)) ?_
  intro W base args ds gs before hval hW _ _
  have hW' := hW
  obtain ⟨p, q, hA, _⟩ := hW
  have hA' : DataW.TrodAll enc Try.prog W 0 (fun _ => true) true [35, 35] args.toList ds p := hA
  obtain ⟨v0, vs0, d0, ds0, p0, q0, hargs, rfl, rfl, h0, r0⟩ := trodAll_cons hA'
  obtain ⟨v1, vs1, d1, ds1, p1, q1, rfl, rfl, rfl, h1, r1⟩ := trodAll_cons r0
  obtain ⟨rfl, rfl, rfl⟩ := trodAll_nil r1
  obtain rfl : args = #[v0, v1] := by cases args; simp_all
  obtain ⟨A0, k0, c0, rfl⟩ := okWide_slice Try.underlying35 (hval 0 35 v0 rfl rfl)
  obtain ⟨fuel0, hf0⟩ := h0
  simp only [Value.cells] at hf0
  obtain ⟨x0, hx0⟩ := open_rdi hf0
  obtain ⟨A1, k1, c1, rfl⟩ := okWide_slice Try.underlying35 (hval 1 35 v1 rfl rfl)
  obtain ⟨fuel1, hf1⟩ := h1
  simp only [Value.cells] at hf1
  obtain ⟨x1, hx1⟩ := open_rdi hf1
  refine (lawAspOpen _ x0 _ x1 W hx0 hx1).mono fun e W' ⟨he, hb⟩ => ?_
  subst he
  exact ⟨_, rfl, law_post (tb := 4) laidOut (by decide +kernel) rfl rfl Try.underlying4 (by rintro _ rfl; rfl) hW' hb⟩

theorem aspOpen_proved : Rows.FnExactAspOpenSaid :=
  OpenClaim.holds_of_wide 4 Try.f4 rfl rfl rfl rfl rfl rfl rfl ⟨rfl, rfl, rfl, rfl, rfl⟩ rfl rfl rfl rfl rfl (by kernel_rfl) Try.func4 aspOpen_closed
    (of_decide_eq_true (by kernel_rfl)) (by unfold Func.isWrapper; first | (rw [if_pos (by decide +kernel)]; kernel_rfl) | (rw [if_neg (by decide +kernel)]; exact ⟨rfl, rfl⟩))
    (fun os started H enc _ => aspOpen_lifted os started H enc)
#print axioms aspOpen_proved
end Go.Proofs.Ythdjjgbjemaabaa
