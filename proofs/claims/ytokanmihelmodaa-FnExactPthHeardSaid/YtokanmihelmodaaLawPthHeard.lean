/-
  PthHeard of the program answers at every argument as the model's PthHeard (Rows.FnExactPthHeardSaid). No condition.
-/
import Derived.Test.YtokanmihelmodaaPthC
import Derived.Test.YtokanmihelmodaaRow
import Derived.ChangeSame
namespace Go.Proofs.Ytokanmihelmodaa
open Go.ChangeShapes Go.WideShapes Go.ChangeAt Go.RowKit
set_option linter.unusedVariables false

theorem bool_cell {H : Type} {enc : TypeId × Value → H} {w : World} {base : Nat} {spare : Nat → Bool} {held : Bool} {n : Nat} {c : Value} {y : DataW H × List MemPlace} (h : DataW.trod enc Try.prog w base spare held n 4 [c] = some y) : ∃ b, c = .bool b := by
  obtain ⟨q, h3, _⟩ := DataW.trod_bool Try.underlying4 h
  exact ⟨q, by simpa using h3⟩
theorem int_cell {H : Type} {enc : TypeId × Value → H} {w : World} {base : Nat} {spare : Nat → Bool} {held : Bool} {n : Nat} {c : Value} {y : DataW H × List MemPlace} (h : DataW.trod enc Try.prog w base spare held n 3 [c] = some y) : ∃ q, c = .int .i64 q := by
  obtain ⟨q, h3, _, _⟩ := DataW.trod_int Try.underlying3 h
  exact ⟨q, by simpa using h3⟩
set_option maxRecDepth 100000 in
theorem open_way {H : Type} {enc : TypeId × Value → H} {w : World} {base b0 : Nat} {r : Reach} {spare : Nat → Bool} {held : Bool} {v : Value} {d : DataW H} {ps : List MemPlace}
    (hval : Value.okWide Try.prog w r b0 23 v) (h : DataW.Trod enc Try.prog w base spare held 23 v d ps) : ∃ (a : Int) (on : Bool) (er sr va ro : Int), v = .agg #[.int .i64 a, .bool on, .int .i64 er, .int .i64 sr, .int .i64 va, .int .i64 ro] := by
  obtain ⟨cs, rfl, hcs⟩ := okWide_struct Try.underlying23 hval
  have hk : Try.prog.cellsOf 23 = 6 := by kernel_rfl
  rw [hk] at hcs
  obtain ⟨fuel, hf⟩ := h
  simp only [Value.cells] at hf
  obtain ⟨xs, n', _, _, _, hxl, hg⟩ := DataW.trod_struct Try.underlying23 hf
  match cs, hcs with
  | ⟨[c0, c1, c2, c3, c4, c5]⟩, _ =>
    match xs, hxl with
    | [y0, y1, y2, y3, y4, y5], _ =>
      have k0 : Try.prog.cellsOf 3 = 1 := by kernel_rfl
      have k1 : Try.prog.cellsOf 4 = 1 := by kernel_rfl
      have h0 : DataW.trod enc Try.prog w base spare held n' 3 (([c0, c1, c2, c3, c4, c5].drop 0).take (Try.prog.cellsOf 3)) = some y0 := hg 0 _ rfl
      have h1 : DataW.trod enc Try.prog w base spare held n' 4 (([c0, c1, c2, c3, c4, c5].drop 1).take (Try.prog.cellsOf 4)) = some y1 := hg 1 _ rfl
      have h2 : DataW.trod enc Try.prog w base spare held n' 3 (([c0, c1, c2, c3, c4, c5].drop 2).take (Try.prog.cellsOf 3)) = some y2 := hg 2 _ rfl
      have h3 : DataW.trod enc Try.prog w base spare held n' 3 (([c0, c1, c2, c3, c4, c5].drop 3).take (Try.prog.cellsOf 3)) = some y3 := hg 3 _ rfl
      have h4 : DataW.trod enc Try.prog w base spare held n' 3 (([c0, c1, c2, c3, c4, c5].drop 4).take (Try.prog.cellsOf 3)) = some y4 := hg 4 _ rfl
      have h5 : DataW.trod enc Try.prog w base spare held n' 3 (([c0, c1, c2, c3, c4, c5].drop 5).take (Try.prog.cellsOf 3)) = some y5 := hg 5 _ rfl
      simp only [k0, k1, List.drop_zero, List.drop_succ_cons, List.take_succ_cons, List.take_zero] at h0 h1 h2 h3 h4 h5
      obtain ⟨a, rfl⟩ := int_cell h0
      obtain ⟨on, rfl⟩ := bool_cell h1
      obtain ⟨er, rfl⟩ := int_cell h2
      obtain ⟨sr, rfl⟩ := int_cell h3
      obtain ⟨va, rfl⟩ := int_cell h4
      obtain ⟨ro, rfl⟩ := int_cell h5
      exact ⟨a, on, er, sr, va, ro, rfl⟩
set_option maxHeartbeats 1000000 in
theorem lawPthHeard_of (a : Int) (on : Bool) (er sr va ro : Int) (ticks : Int) (x0 : Int) (x1 : Bool) (x2 x3 x4 x5 : Int) (HS : ∀ w, Calls Try.prog 21 #[.agg #[.int .i64 a, .bool on, .int .i64 er, .int .i64 sr, .int .i64 va, .int .i64 ro], .int .i64 ticks] w fun e w' => e = .returned (.agg #[.int .i64 x0, .bool x1, .int .i64 x2, .int .i64 x3, .int .i64 x4, .int .i64 x5]) ∧ Below w.heap.size w w') (HI : ∀ w, Calls Try.prog 22 #[.agg #[.int .i64 a, .bool on, .int .i64 er, .int .i64 sr, .int .i64 va, .int .i64 ro], .int .i64 ticks] w fun e w' => e = .returned (.agg #[.int .i64 x0, .bool x1, .int .i64 x2, .int .i64 x3, .int .i64 x4, .int .i64 x5]) ∧ Below w.heap.size w w') (w : World) :
    Calls Try.prog 5 #[.agg #[.int .i64 a, .bool on, .int .i64 er, .int .i64 sr, .int .i64 va, .int .i64 ro], .int .i64 ticks] w fun e w' => e = .returned (.bool true) ∧ Below w.heap.size w w' := by
  have HS := Lib.hid HS
  have HI := Lib.hid HI
  have K := Lib.hid (Blk.new (w := w) (b := w.heap.size) #[.int .i64 a, .bool on, .int .i64 er, .int .i64 sr, .int .i64 va, .int .i64 ro] 23 rfl)
  have HB := Lib.hid ((Below.refl w.heap.size w).alloc (Nat.le_refl _) (.cells #[.int .i64 a, .bool on, .int .i64 er, .int .i64 sr, .int .i64 va, .int .i64 ro] 23))
  go_enter Try.func5, Try.ntmps5
  go_wp2_with fail
  refine (toPthWay_any _ _ _ _ _ _ _).mono ?_
  rintro e w1 ⟨rfl, b1⟩
  have K := Lib.hid (K.out.keep b1)
  have HB := Lib.hid (HB.out.trans (b1.mono HB.out.size))
  clear b1
  go_wp2_with fail
  refine (HS.out _).mono ?_
  rintro e w2 ⟨rfl, b2⟩
  have K := Lib.hid (K.out.keep b2)
  have HB := Lib.hid (HB.out.trans (b2.mono HB.out.size))
  clear b2
  have L := Lib.hid (Blk.new (w := w2) (b := w2.heap.size) #[.int .i64 x0, .bool x1, .int .i64 x2, .int .i64 x3, .int .i64 x4, .int .i64 x5] 25 rfl)
  have K := Lib.hid (K.out.alloc (.cells #[.int .i64 x0, .bool x1, .int .i64 x2, .int .i64 x3, .int .i64 x4, .int .i64 x5] 25))
  have HB := Lib.hid (HB.out.alloc (HB.out.size) (.cells #[.int .i64 x0, .bool x1, .int .i64 x2, .int .i64 x3, .int .i64 x4, .int .i64 x5] 25))
  have k := K.out
  have pc0 := k.at (i := 0) rfl
  have pc1 := k.at (i := 1) rfl
  have pc2 := k.at (i := 2) rfl
  have pc3 := k.at (i := 3) rfl
  have pc4 := k.at (i := 4) rfl
  have pc5 := k.at (i := 5) rfl
  clear k
  go_wp2_with fail
  refine (toPthWay_any _ _ _ _ _ _ _).mono ?_
  rintro e w3 ⟨rfl, b3⟩
  have L := Lib.hid (L.out.keep b3)
  have HB := Lib.hid (HB.out.trans (b3.mono HB.out.size))
  clear b3 K
  clear pc0 pc1 pc2 pc3 pc4 pc5
  go_wp2_with fail
  refine (HI.out _).mono ?_
  rintro e w4 ⟨rfl, b4⟩
  have L := Lib.hid ((L.out.keep b4).alloc (.cells #[.int .i64 x0, .bool x1, .int .i64 x2, .int .i64 x3, .int .i64 x4, .int .i64 x5] 25))
  have HB := Lib.hid (HB.out.trans (b4.mono HB.out.size))
  clear b4
  have k := L.out
  have pc0 := k.at (i := 0) rfl
  have pc1 := k.at (i := 1) rfl
  have pc2 := k.at (i := 2) rfl
  have pc3 := k.at (i := 3) rfl
  have pc4 := k.at (i := 4) rfl
  have pc5 := k.at (i := 5) rfl
  clear k
  go_wp2_with fail
  refine (eqPthWay_same _ _ _ _ _ _ _).mono ?_
  rintro e w5 ⟨rfl, b5⟩
  have HB := Lib.hid ((HB.out.alloc (HB.out.size) _).trans (b5.mono (by have := HB.out.size; simp; omega)))
  clear b5
  clear pc0 pc1 pc2 pc3 pc4 pc5
  go_wp2
  go_ret
  exact ⟨rfl, HB.out⟩
theorem tdiv_bounds {n : Int} (d : Int) (hd : d = 4 ∨ d = 8) (h : 0 ≤ n) : 0 ≤ n.tdiv d ∧ d * n.tdiv d ≤ n ∧ n < d * n.tdiv d + d := by
  rw [Int.tdiv_eq_ediv_of_nonneg h]
  rcases hd with rfl | rfl <;> omega
theorem lawPthHeard (a : Int) (on : Bool) (er sr va ro : Int) (ticks : Int) (w : World) : Calls Try.prog 5 #[.agg #[.int .i64 a, .bool on, .int .i64 er, .int .i64 sr, .int .i64 va, .int .i64 ro], .int .i64 ticks] w fun e w' => e = .returned (.bool true) ∧ Below w.heap.size w w' := by
  rcases ok : okW a on er sr va ro with _ | _
  · exact lawPthHeard_of a on er sr va ro ticks 0 false 0 0 0 0 (fun w => specHeard_no a on er sr va ro ticks w ok) (fun w => implHeard_no a on er sr va ro ticks w ok) w
  · have hc := clampI_cases ticks 0 16 (by omega)
    obtain ⟨t, et⟩ : ∃ t, clampI ticks 0 16 = t := ⟨_, rfl⟩
    have ht : 0 ≤ t ∧ t ≤ 16 := by omega
    by_cases h0 : sr = 0
    · subst h0
      have e8 : (8 * t).tdiv 8 = t := by have := tdiv_bounds (n := 8 * t) 8 (.inr rfl) (by omega); omega
      exact lawPthHeard_of a on er 0 va ro ticks a true 0 (8 * t) (2 * t) _ (fun w => specHeard_z a on er va ro ticks t _ w ok ht et e8 rfl) (fun w => implHeard_yes a on er 0 va ro ticks t _ _ _ w ok ht et (fun w => heard_z va ro t _ w ht e8 rfl)) w
    · obtain ⟨-, -, -, hs, hv, -⟩ := okW_iff.1 ok
      obtain ⟨q4, e4⟩ : ∃ q, va.tdiv 4 = q := ⟨_, rfl⟩
      obtain ⟨q8, e8⟩ : ∃ q, sr.tdiv 8 = q := ⟨_, rfl⟩
      obtain ⟨f, ef⟩ : ∃ f, farI q8 t = f := ⟨_, rfl⟩
      obtain ⟨q, eq⟩ : ∃ q, (sr - q8 + t).tdiv 8 = q := ⟨_, rfl⟩
      have b4 := tdiv_bounds (n := va) 4 (.inl rfl) hv.1
      have b8 := tdiv_bounds (n := sr) 8 (.inr rfl) hs.1
      have bf := farI_cases q8 t
      rw [e4] at b4
      rw [e8] at b8
      have bq := tdiv_bounds (n := sr - q8 + t) 8 (.inr rfl) (by omega)
      rw [eq] at bq
      have c4 : 0 ≤ q4 ∧ q4 ≤ 16 := by omega
      have c8 : 0 ≤ q8 ∧ q8 ≤ 16 := by omega
      have cf : 0 ≤ f ∧ f ≤ 16 := by omega
      have cv : 0 ≤ va - q4 + f ∧ va - q4 + f ≤ 64 := by omega
      have cs : 0 ≤ sr - q8 + t ∧ sr - q8 + t ≤ 128 := by omega
      have cq : 0 ≤ q ∧ q ≤ 16 := by omega
      exact lawPthHeard_of a on er sr va ro ticks a true 0 (sr - q8 + t) (va - q4 + f) _ (fun w => specHeard_nz a on er sr va ro ticks t q4 q8 f q _ w ok h0 ht et e4 e8 ef eq c4 c8 cf cv cs cq rfl)
        (fun w => implHeard_yes a on er sr va ro ticks t _ _ _ w ok ht et (fun w => heard_nz sr va ro t q4 q8 f q _ w h0 hs hv ht e4 e8 ef eq c4 c8 cf cv cs cq rfl)) w
set_option maxRecDepth 100000 in
theorem pthHeard_lifted (os : Os) (started : os.Started) (H : Type) (enc : TypeId × Value → H) :
    ReturnsInHanded {} Try.checked os 5 .any (Rows.fnExactPthHeardSpec.pre6 enc Try.prog Try.f5 Rows.fnExactPthHeardRow.domain false) (Rows.fnExactPthHeardSpec.post enc Try.prog Try.f5 false true false false) := by
  refine returnsInHanded_of_change (C := Try.checked) ownKnob_none started (by kernel_rfl) Try.func5
    (ChangeSpec.witness6 (enc := enc) (C := Try.checked) false ⟨#[], #[.agg #[.int .i64 0, .bool false, .int .i64 0, .int .i64 0, .int .i64 0, .int .i64 0], .int .i64 0], []⟩ 8 (by kernel_rfl) (by kernel_rfl) (by kernel_rfl) (by kernel_rfl)) ?_
  intro W base args ds gs before hval hW _ _
  have hW' := hW
  obtain ⟨p, q, hA, _⟩ := hW
  have hA' : DataW.TrodAll enc Try.prog W 0 (fun _ => true) true [23, 3] args.toList ds p := hA
  obtain ⟨v0, vs0, d0, ds0, p0, q0, hargs, rfl, rfl, h0, r0⟩ := trodAll_cons hA'
  obtain ⟨v1, vs1, d1, ds1, p1, q1, rfl, rfl, rfl, h1, r1⟩ := trodAll_cons r0
  obtain ⟨rfl, rfl, rfl⟩ := trodAll_nil r1
  obtain rfl : args = #[v0, v1] := by cases args; simp_all
  obtain ⟨a, on, er, sr, va, ro, rfl⟩ := open_way (hval 0 23 v0 rfl rfl) h0
  obtain ⟨a1, rfl, rfl, rfl, w1⟩ := open_int Try.underlying3 (hval 1 3 v1 rfl rfl) h1
  refine (lawPthHeard a on er sr va ro a1 W).mono fun e W' ⟨he, hb⟩ => ?_
  subst he
  exact ⟨_, rfl, law_post (tb := 4) laidOut (by decide +kernel) rfl rfl Try.underlying4 (by rintro _ rfl; rfl) hW' hb⟩

theorem pthHeard_proved : Rows.FnExactPthHeardSaid :=
  OpenClaim.holds_of_wide 5 Try.f5 rfl rfl rfl rfl rfl rfl rfl ⟨rfl, rfl, rfl, rfl, rfl⟩ rfl rfl rfl rfl rfl (by kernel_rfl) Try.func5 (by kernel_rfl)
    (of_decide_eq_true (by kernel_rfl)) (by unfold Func.isWrapper; first | (rw [if_pos (by decide +kernel)]; kernel_rfl) | (rw [if_neg (by decide +kernel)]; exact ⟨rfl, rfl⟩))
    (fun os started H enc _ => pthHeard_lifted os started H enc)
#print axioms pthHeard_proved
end Go.Proofs.Ytokanmihelmodaa
