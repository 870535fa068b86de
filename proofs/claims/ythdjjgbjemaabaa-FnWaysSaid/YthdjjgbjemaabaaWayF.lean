/-
  PthHeard and PthLost of both programs, each by one plain function of a way.
-/
import Derived.Test.YthdjjgbjemaabaaPick
import Derived.Test.YthdjjgbjemaabaaPthC
namespace Go.Proofs.Ythdjjgbjemaabaa
open Go.ChangeShapes Go.WideShapes Go.ChangeAt Go.RowKit
set_option linter.unusedVariables false
set_option linter.unusedSimpArgs false

def zWay : DPthWay := ⟨0, false, 0, 0, 0, 0⟩
def heardF (x : DPthWay) (ticks : Int) : DPthWay :=
  if okX x = false then zWay
  else if x.xSrtt = 0 then ⟨x.xAddr, true, 0, 8 * clampI ticks 0 16, 2 * clampI ticks 0 16, clampI (clampI ticks 0 16 + 2 * clampI ticks 0 16) 2 16⟩
  else ⟨x.xAddr, true, 0, x.xSrtt - x.xSrtt.tdiv 8 + clampI ticks 0 16, x.xVar - x.xVar.tdiv 4 + farI (x.xSrtt.tdiv 8) (clampI ticks 0 16), clampI ((x.xSrtt - x.xSrtt.tdiv 8 + clampI ticks 0 16).tdiv 8 + (x.xVar - x.xVar.tdiv 4 + farI (x.xSrtt.tdiv 8) (clampI ticks 0 16))) 2 16⟩
def lostF (x : DPthWay) : DPthWay :=
  if okX x = false then zWay
  else ⟨x.xAddr, decide (clampI (x.xErrors + 1) 0 3 ≤ 2), clampI (x.xErrors + 1) 0 3, x.xSrtt, x.xVar, clampI (2 * x.xRto) 2 16⟩
theorem wtdiv_bounds {n : Int} (d : Int) (hd : d = 4 ∨ d = 8) (h : 0 ≤ n) : 0 ≤ n.tdiv d ∧ d * n.tdiv d ≤ n ∧ n < d * n.tdiv d + d := by
  rw [Int.tdiv_eq_ediv_of_nonneg h]
  rcases hd with rfl | rfl <;> omega
def WayC (f : Nat) (args : Array Value) (y : DPthWay) : Prop := ∀ w : World, Calls Try.prog f args w fun e w' => e = .returned (.agg #[.int .i64 y.xAddr, .bool y.xOn, .int .i64 y.xErrors, .int .i64 y.xSrtt, .int .i64 y.xVar, .int .i64 y.xRto]) ∧ Below w.heap.size w w'
theorem heard_both (x : DPthWay) (ticks : Int) : WayC 18 #[.agg #[.int .i64 x.xAddr, .bool x.xOn, .int .i64 x.xErrors, .int .i64 x.xSrtt, .int .i64 x.xVar, .int .i64 x.xRto], .int .i64 ticks] (heardF x ticks) ∧ WayC 16 #[.agg #[.int .i64 x.xAddr, .bool x.xOn, .int .i64 x.xErrors, .int .i64 x.xSrtt, .int .i64 x.xVar, .int .i64 x.xRto], .int .i64 ticks] (heardF x ticks) := by
  obtain ⟨a, on, er, sr, va, ro⟩ := x
  rcases ok : okW a on er sr va ro with _ | _
  · have hh : heardF ⟨a, on, er, sr, va, ro⟩ ticks = zWay := by unfold heardF; rw [if_pos (show okX ⟨a, on, er, sr, va, ro⟩ = false from ok)]
    rw [hh]
    exact ⟨fun w => specHeard_no a on er sr va ro ticks w ok, fun w => implHeard_no a on er sr va ro ticks w ok⟩
  · have nok : ¬ okX ⟨a, on, er, sr, va, ro⟩ = false := by show ¬ okW a on er sr va ro = false; rw [ok]; simp
    have hc := clampI_cases ticks 0 16 (by omega)
    obtain ⟨t, et⟩ : ∃ t, clampI ticks 0 16 = t := ⟨_, rfl⟩
    have ht : 0 ≤ t ∧ t ≤ 16 := by omega
    by_cases h0 : sr = 0
    · subst h0
      have hh : heardF ⟨a, on, er, 0, va, ro⟩ ticks = ⟨a, true, 0, 8 * t, 2 * t, clampI (t + 2 * t) 2 16⟩ := by unfold heardF; rw [if_neg nok, if_pos rfl, et]
      rw [hh]
      have e8 : (8 * t).tdiv 8 = t := by have := wtdiv_bounds (n := 8 * t) 8 (.inr rfl) (by omega); omega
      exact ⟨fun w => specHeard_z a on er va ro ticks t _ w ok ht et e8 rfl, fun w => implHeard_yes a on er 0 va ro ticks t _ _ _ w ok ht et (fun w => heard_z va ro t _ w ht e8 rfl)⟩
    · have hh : heardF ⟨a, on, er, sr, va, ro⟩ ticks = ⟨a, true, 0, sr - sr.tdiv 8 + t, va - va.tdiv 4 + farI (sr.tdiv 8) t, clampI ((sr - sr.tdiv 8 + t).tdiv 8 + (va - va.tdiv 4 + farI (sr.tdiv 8) t)) 2 16⟩ := by unfold heardF; rw [if_neg nok, if_neg h0, et]
      rw [hh]
      obtain ⟨-, -, -, hs, hv, -⟩ := okW_iff.1 ok
      obtain ⟨q4, e4⟩ : ∃ q, va.tdiv 4 = q := ⟨_, rfl⟩
      obtain ⟨q8, e8⟩ : ∃ q, sr.tdiv 8 = q := ⟨_, rfl⟩
      obtain ⟨f, ef⟩ : ∃ f, farI q8 t = f := ⟨_, rfl⟩
      obtain ⟨q, eq⟩ : ∃ q, (sr - q8 + t).tdiv 8 = q := ⟨_, rfl⟩
      have b4 := wtdiv_bounds (n := va) 4 (.inl rfl) hv.1
      have b8 := wtdiv_bounds (n := sr) 8 (.inr rfl) hs.1
      have bf := farI_cases q8 t
      rw [e4] at b4
      rw [e8] at b8
      have bq := wtdiv_bounds (n := sr - q8 + t) 8 (.inr rfl) (by omega)
      rw [eq] at bq
      rw [e4, e8, ef, eq]
      have c4 : 0 ≤ q4 ∧ q4 ≤ 16 := by omega
      have c8 : 0 ≤ q8 ∧ q8 ≤ 16 := by omega
      have cf : 0 ≤ f ∧ f ≤ 16 := by omega
      have cv : 0 ≤ va - q4 + f ∧ va - q4 + f ≤ 64 := by omega
      have cs : 0 ≤ sr - q8 + t ∧ sr - q8 + t ≤ 128 := by omega
      have cq : 0 ≤ q ∧ q ≤ 16 := by omega
      exact ⟨fun w => specHeard_nz a on er sr va ro ticks t q4 q8 f q _ w ok h0 ht et e4 e8 ef eq c4 c8 cf cv cs cq rfl,
        fun w => implHeard_yes a on er sr va ro ticks t _ _ _ w ok ht et (fun w => heard_nz sr va ro t q4 q8 f q _ w h0 hs hv ht e4 e8 ef eq c4 c8 cf cv cs cq rfl)⟩
theorem lost_both (x : DPthWay) : WayC 19 #[.agg #[.int .i64 x.xAddr, .bool x.xOn, .int .i64 x.xErrors, .int .i64 x.xSrtt, .int .i64 x.xVar, .int .i64 x.xRto]] (lostF x) ∧ WayC 17 #[.agg #[.int .i64 x.xAddr, .bool x.xOn, .int .i64 x.xErrors, .int .i64 x.xSrtt, .int .i64 x.xVar, .int .i64 x.xRto]] (lostF x) := by
  obtain ⟨a, on, er, sr, va, ro⟩ := x
  rcases ok : okW a on er sr va ro with _ | _
  · have hh : lostF ⟨a, on, er, sr, va, ro⟩ = zWay := by unfold lostF; rw [if_pos (show okX ⟨a, on, er, sr, va, ro⟩ = false from ok)]
    rw [hh]
    exact ⟨fun w => specLost_no a on er sr va ro w ok, fun w => implLost_no a on er sr va ro w ok⟩
  · have nok : ¬ okX ⟨a, on, er, sr, va, ro⟩ = false := by show ¬ okW a on er sr va ro = false; rw [ok]; simp
    have hh : lostF ⟨a, on, er, sr, va, ro⟩ = ⟨a, decide (clampI (er + 1) 0 3 ≤ 2), clampI (er + 1) 0 3, sr, va, clampI (2 * ro) 2 16⟩ := by unfold lostF; rw [if_neg nok]
    rw [hh]
    exact ⟨fun w => specLost_yes a on er sr va ro _ _ w ok rfl rfl, fun w => implLost_yes a on er sr va ro _ _ w ok rfl rfl⟩
theorem okX_iff {x : DPthWay} : okX x = true ↔ (0 ≤ x.xAddr ∧ x.xAddr ≤ 65535) ∧ (0 ≤ x.xErrors ∧ x.xErrors ≤ 3) ∧ (x.xOn = decide (x.xErrors ≤ 2)) ∧ (0 ≤ x.xSrtt ∧ x.xSrtt ≤ 128) ∧ (0 ≤ x.xVar ∧ x.xVar ≤ 64) ∧ (2 ≤ x.xRto ∧ x.xRto ≤ 16) := okW_iff
theorem heard_bad {x : DPthWay} (t : Int) (h : okX x = false) : heardF x t = zWay := by unfold heardF; rw [if_pos h]
theorem lost_bad {x : DPthWay} (h : okX x = false) : lostF x = zWay := by unfold lostF; rw [if_pos h]
theorem heard_good {x : DPthWay} (ticks : Int) (ok : okX x = true) : okX (heardF x ticks) = true ∧ (heardF x ticks).xOn = true ∧ (heardF x ticks).xErrors = 0 ∧ (heardF x ticks).xAddr = x.xAddr := by
  have nok : ¬ okX x = false := by rw [ok]; simp
  obtain ⟨ha, he, ho, hs, hv, hr⟩ := okX_iff.1 ok
  have hc := clampI_cases ticks 0 16 (by omega)
  unfold heardF
  rw [if_neg nok]
  generalize clampI ticks 0 16 = t at *
  have ht : 0 ≤ t ∧ t ≤ 16 := by omega
  by_cases h0 : x.xSrtt = 0
  · rw [if_pos h0]
    have h2 := clampI_cases (t + 2 * t) 2 16 (by omega)
    refine ⟨okX_iff.2 ⟨ha, ?_, ?_, ?_, ?_, ?_⟩, rfl, rfl, rfl⟩
    · show (0 : Int) ≤ 0 ∧ (0 : Int) ≤ 3; omega
    · rfl
    · show (0 : Int) ≤ 8 * t ∧ 8 * t ≤ 128; omega
    · show (0 : Int) ≤ 2 * t ∧ 2 * t ≤ 64; omega
    · show (2 : Int) ≤ clampI (t + 2 * t) 2 16 ∧ clampI (t + 2 * t) 2 16 ≤ 16; omega
  · rw [if_neg h0]
    have b4 := wtdiv_bounds (n := x.xVar) 4 (.inl rfl) hv.1
    have b8 := wtdiv_bounds (n := x.xSrtt) 8 (.inr rfl) hs.1
    generalize x.xVar.tdiv 4 = q4 at *
    generalize x.xSrtt.tdiv 8 = q8 at *
    have bf := farI_cases q8 t
    generalize farI q8 t = f at *
    generalize (x.xSrtt - q8 + t).tdiv 8 = q at *
    have h2 := clampI_cases (q + (x.xVar - q4 + f)) 2 16 (by omega)
    refine ⟨okX_iff.2 ⟨ha, ?_, ?_, ?_, ?_, ?_⟩, rfl, rfl, rfl⟩
    · show (0 : Int) ≤ 0 ∧ (0 : Int) ≤ 3; omega
    · rfl
    · show (0 : Int) ≤ x.xSrtt - q8 + t ∧ x.xSrtt - q8 + t ≤ 128; omega
    · show (0 : Int) ≤ x.xVar - q4 + f ∧ x.xVar - q4 + f ≤ 64; omega
    · show (2 : Int) ≤ clampI (q + (x.xVar - q4 + f)) 2 16 ∧ clampI (q + (x.xVar - q4 + f)) 2 16 ≤ 16; omega
theorem lost_good {x : DPthWay} (ok : okX x = true) : okX (lostF x) = true ∧ (lostF x).xErrors = clampI (x.xErrors + 1) 0 3 ∧ x.xRto ≤ (lostF x).xRto := by
  have nok : ¬ okX x = false := by rw [ok]; simp
  obtain ⟨ha, he, ho, hs, hv, hr⟩ := okX_iff.1 ok
  unfold lostF
  rw [if_neg nok]
  have h1 := clampI_cases (x.xErrors + 1) 0 3 (by omega)
  have h2 := clampI_cases (2 * x.xRto) 2 16 (by omega)
  refine ⟨okX_iff.2 ⟨ha, ?_, rfl, hs, hv, ?_⟩, rfl, ?_⟩
  · show 0 ≤ clampI (x.xErrors + 1) 0 3 ∧ clampI (x.xErrors + 1) 0 3 ≤ 3; omega
  · show 2 ≤ clampI (2 * x.xRto) 2 16 ∧ clampI (2 * x.xRto) 2 16 ≤ 16; omega
  · show x.xRto ≤ clampI (2 * x.xRto) 2 16; omega
/-- Lost three times: down, and its time no shorter. -/
theorem lost_thrice {x : DPthWay} (ok : okX x = true) : okX (lostF (lostF (lostF x))) = true ∧ (lostF (lostF (lostF x))).xOn = false ∧ x.xRto ≤ (lostF (lostF (lostF x))).xRto := by
  obtain ⟨o1, e1, r1⟩ := lost_good ok
  obtain ⟨o2, e2, r2⟩ := lost_good o1
  obtain ⟨o3, e3, r3⟩ := lost_good o2
  have he := (okX_iff.1 ok).2.1
  have c1 := clampI_cases (x.xErrors + 1) 0 3 (by omega)
  rw [e1] at e2
  have c2 := clampI_cases (clampI (x.xErrors + 1) 0 3 + 1) 0 3 (by omega)
  rw [e2] at e3
  have c3 := clampI_cases (clampI (clampI (x.xErrors + 1) 0 3 + 1) 0 3 + 1) 0 3 (by omega)
  refine ⟨o3, ?_, by omega⟩
  rw [(okX_iff.1 o3).2.2.1, e3]
  exact decide_eq_false (by omega)
end Go.Proofs.Ythdjjgbjemaabaa
