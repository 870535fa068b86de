/-
  The answer of a receiving side: DatAck of both programs, over one plain function. (Written by wip/tools/genack.py.)
-/
import Derived.Test.YthdjjgbjemaabaaInOkS
import Derived.Test.YthdjjgbjemaabaaApp
import Derived.Test.YthdjjgbjemaabaaMkFrmGap
namespace Go.Proofs.Ythdjjgbjemaabaa
open Go.ChangeShapes Go.WideShapes Go.ChangeAt Go.RowKit
set_option linter.unusedVariables false
set_option linter.unusedSimpArgs false

/-- A number more: the last run goes on, or a new one begins. -/
def ackStep (gs : List DFrmGap) (n : Int) : List DFrmGap :=
  if (gs.getLast?.map (·.xTo)) = some (n - 1) then gs.dropLast ++ (gs.getLast?.map fun g => { g with xTo := n : DFrmGap }).toList else gs ++ [⟨n, n⟩]
def runsF (ns : List Int) : List DFrmGap := ns.foldl ackStep []
theorem runsF_snoc (ns : List Int) (n : Int) : runsF (ns ++ [n]) = ackStep (runsF ns) n := by simp [runsF]
theorem ackStep_new {gs : List DFrmGap} {n : Int} (h : ∀ k, gs.length = k + 1 → ∀ g, gs[k]? = some g → g.xTo ≠ n - 1) : ackStep gs n = gs ++ [⟨n, n⟩] := by
  unfold ackStep
  rw [if_neg]
  intro h1
  rcases hg : gs.getLast? with _ | g
  · simp [hg] at h1
  · simp only [hg, Option.map_some, Option.some.injEq] at h1
    rw [List.getLast?_eq_getElem?] at hg
    have hl : gs.length - 1 < gs.length := (List.getElem?_eq_some_iff.1 hg).1
    exact h (gs.length - 1) (by omega) g hg h1
theorem ackStep_on {gs : List DFrmGap} {n : Int} {k : Nat} (hl : gs.length = k + 1) {g : DFrmGap} (hg : gs[k]? = some g) (h : g.xTo = n - 1) : ackStep gs n = gs.set k { g with xTo := n } := by
  have hg' : gs.getLast? = some g := by rw [List.getLast?_eq_getElem?, hl]; exact hg
  unfold ackStep
  rw [if_pos (by simp [hg', h]), hg']
  apply List.ext_getElem? 
  intro i
  simp only [Option.map_some, Option.toList_some]
  rw [List.getElem?_append, List.length_dropLast, hl]
  by_cases hi : i < k
  · rw [if_pos (by omega), List.getElem?_dropLast, if_pos (by omega), List.getElem?_set_ne (by omega)]
  · rw [if_neg (by omega)]
    by_cases hik : i = k
    · subst hik
      rw [List.getElem?_set_self (by omega)]
      simp
    · rw [List.getElem?_eq_none (by simp; omega), List.getElem?_eq_none (by simp; omega)]
theorem ackStep_len (gs : List DFrmGap) (n : Int) : gs.length ≤ (ackStep gs n).length ∧ (ackStep gs n).length ≤ gs.length + 1 := by
  unfold ackStep
  rcases hg : gs.getLast? with _ | g
  · simp
  · have : gs.length ≠ 0 := by intro h; have := List.length_eq_zero_iff.1 h; subst this; simp at hg
    split
    · simp; omega
    · simp
theorem ackStep_pre (a : List DFrmGap) (b : DFrmGap) (n : Int) : ∃ c d, ackStep (a ++ [b]) n = a ++ (c :: d) := by
  unfold ackStep
  simp only [List.getLast?_append, List.getLast?_singleton, Option.some_or, Option.map_some]
  split
  · exact ⟨{ b with xTo := n }, [], by simp⟩
  · exact ⟨b, [⟨n, n⟩], by simp⟩
theorem ackFold_pre (ns : List Int) : ∀ (a : List DFrmGap) (b : DFrmGap) (c : List DFrmGap), ∃ d e, ns.foldl ackStep (a ++ (b :: c)) = a ++ (d :: e) := by
  induction ns with
  | nil => intro a b c; exact ⟨b, c, rfl⟩
  | cons n ns ih =>
    intro a b c
    rw [List.foldl_cons]
    rcases List.eq_nil_or_concat c with rfl | ⟨c', z, rfl⟩
    · obtain ⟨d, e, h⟩ := ackStep_pre a b n
      rw [h]; exact ih _ _ _
    · obtain ⟨d, e, h⟩ := ackStep_pre (a ++ (b :: c')) z n
      rw [show a ++ b :: (c'.concat z) = (a ++ b :: c') ++ [z] by simp, h, List.append_assoc, List.cons_append]
      exact ih _ _ _
/-- What was told before the last run stays. -/
theorem runsF_take {ns : List Int} {k : Nat} {n : Int} (hn : ns[k]? = some n) (hl : (runsF (ns.take k)).length = 4) (hs : ackStep (runsF (ns.take k)) n = runsF (ns.take k) ++ [⟨n, n⟩]) : (runsF ns).take 4 = runsF (ns.take k) := by
  obtain ⟨hk, he⟩ := List.getElem?_eq_some_iff.1 hn
  have h1 : runsF ns = (ns.drop (k + 1)).foldl ackStep (ackStep (runsF (ns.take k)) n) := by
    conv => lhs; rw [← List.take_append_drop (k + 1) ns]
    rw [runsF, List.foldl_append, List.take_succ_eq_append_getElem hk, he, List.foldl_append]
    rfl
  obtain ⟨d, e, h2⟩ := ackFold_pre (ns.drop (k + 1)) (runsF (ns.take k)) ⟨n, n⟩ []
  rw [h1, hs, h2, ← hl, List.take_left]
theorem runsF_len (ns : List Int) : (runsF ns).length ≤ ns.length := by
  have h : ∀ (ns : List Int) (gs : List DFrmGap), (ns.foldl ackStep gs).length ≤ gs.length + ns.length := by
    intro ns
    induction ns with
    | nil => simp
    | cons n ns ih => intro gs; have h1 := ih (ackStep gs n); have h2 := (ackStep_len gs n).2; simp only [List.foldl_cons, List.length_cons]; omega
  simpa [runsF] using h ns []
theorem ackStep_to {gs : List DFrmGap} {n b : Int} (hb : n < b) (h : ∀ g ∈ gs, g.xTo < b) : ∀ g ∈ ackStep gs n, g.xTo < b := by
  intro g hg
  unfold ackStep at hg
  split at hg
  · rcases List.mem_append.1 hg with hg | hg
    · exact h g ((List.dropLast_sublist gs).subset hg)
    · rcases hx : gs.getLast? with _ | y
      · simp [hx] at hg
      · simp only [hx, Option.map_some, Option.toList_some, List.mem_singleton] at hg; subst hg; exact hb
  · rcases List.mem_append.1 hg with hg | hg
    · exact h g hg
    · simp only [List.mem_singleton] at hg; subst hg; exact hb
theorem runsF_to {b : Int} (ns : List Int) (h : ∀ n ∈ ns, n < b) : ∀ g ∈ runsF ns, g.xTo < b := by
  have h2 : ∀ (ns : List Int) (gs : List DFrmGap), (∀ n ∈ ns, n < b) → (∀ g ∈ gs, g.xTo < b) → ∀ g ∈ ns.foldl ackStep gs, g.xTo < b := by
    intro ns
    induction ns with
    | nil => intro gs _ h; exact h
    | cons n ns ih => intro gs h1 h2; exact ih _ (fun m hm => h1 m (List.mem_cons_of_mem _ hm)) (ackStep_to (h1 n (List.mem_cons_self ..)) h2)
  exact h2 ns [] h (by simp)
theorem ackStep_last (gs : List DFrmGap) (n : Int) : ∃ k g, (ackStep gs n).length = k + 1 ∧ (ackStep gs n)[k]? = some g ∧ g.xTo = n := by
  unfold ackStep
  split
  · rename_i h
    rcases hx : gs.getLast? with _ | y
    · simp [hx] at h
    · exact ⟨gs.dropLast.length, { y with xTo := n }, by simp, by simp, rfl⟩
  · exact ⟨gs.length, ⟨n, n⟩, by simp, by simp, rfl⟩
theorem filter_succ {j : Int} : ∀ {ns : List Int}, ns.Pairwise (· < ·) → ns.filter (fun n => decide (n < j + 1)) = ns.filter (fun n => decide (n < j)) ++ (if j ∈ ns then [j] else [])
  | [], _ => by simp
  | a :: ns, h => by
    obtain ⟨h1, h2⟩ := List.pairwise_cons.1 h
    have ih := filter_succ (j := j) h2
    rcases Int.lt_trichotomy a j with hlt | rfl | hgt
    · have hm : (j ∈ a :: ns) = (j ∈ ns) := by simp; intro he; omega
      simp only [hm]
      rw [List.filter_cons_of_pos (by simp; omega), List.filter_cons_of_pos (by simpa using hlt), ih, List.cons_append]
    · have e1 : ns.filter (fun n => decide (n < a)) = [] := List.filter_eq_nil_iff.2 fun n hn => by have := h1 n hn; simp; omega
      have e2 : ns.filter (fun n => decide (n < a + 1)) = [] := List.filter_eq_nil_iff.2 fun n hn => by have := h1 n hn; simp; omega
      rw [List.filter_cons_of_pos (by simp; omega), List.filter_cons_of_neg (by simp), e1, e2]; simp
    · have e1 : ns.filter (fun n => decide (n < j)) = [] := List.filter_eq_nil_iff.2 fun n hn => by have := h1 n hn; simp; omega
      have e2 : ns.filter (fun n => decide (n < j + 1)) = [] := List.filter_eq_nil_iff.2 fun n hn => by have := h1 n hn; simp; omega
      have hm : ¬ (j ∈ a :: ns) := by simp only [List.mem_cons, not_or]; exact ⟨by omega, fun hn => by have := h1 j hn; omega⟩
      rw [List.filter_cons_of_neg (by simp; omega), List.filter_cons_of_neg (by simp; omega), e1, e2, if_neg hm]; rfl
def runsTo (ns : List Int) (j : Int) : List DFrmGap := runsF (ns.filter fun n => decide (n < j))
theorem runsTo_no {ns : List Int} (h : ns.Pairwise (· < ·)) {j : Int} (hj : j ∉ ns) : runsTo ns (j + 1) = runsTo ns j := by
  unfold runsTo; rw [filter_succ h, if_neg hj, List.append_nil]
theorem runsTo_yes {ns : List Int} (h : ns.Pairwise (· < ·)) {j : Int} (hj : j ∈ ns) : runsTo ns (j + 1) = ackStep (runsTo ns j) j := by
  unfold runsTo; rw [filter_succ h, if_pos hj, runsF_snoc]
theorem runsTo_on {ns : List Int} (h : ns.Pairwise (· < ·)) {j : Int} (hj : j ∈ ns) (hj1 : j - 1 ∈ ns) : ∃ k g, (runsTo ns j).length = k + 1 ∧ (runsTo ns j)[k]? = some g ∧ runsTo ns (j + 1) = (runsTo ns j).set k { g with xTo := j } := by
  have h1 : runsTo ns j = ackStep (runsTo ns (j - 1)) (j - 1) := by have := runsTo_yes h hj1; rwa [show j - 1 + 1 = j by omega] at this
  obtain ⟨k, g, h2, h3, h4⟩ := ackStep_last (runsTo ns (j - 1)) (j - 1)
  rw [← h1] at h2 h3
  exact ⟨k, g, h2, h3, by rw [runsTo_yes h hj, ackStep_on h2 h3 h4]⟩
theorem runsTo_new {ns : List Int} (h : ns.Pairwise (· < ·)) {j : Int} (hj : j ∈ ns) (hj1 : j - 1 ∉ ns) : runsTo ns (j + 1) = runsTo ns j ++ [⟨j, j⟩] := by
  have h1 : runsTo ns j = runsTo ns (j - 1) := by have := runsTo_no h hj1; rwa [show j - 1 + 1 = j by omega] at this
  rw [runsTo_yes h hj, ackStep_new]
  intro k hk g hg hto
  rw [h1] at hg
  have := runsF_to (b := j - 1) (ns.filter fun n => decide (n < j - 1)) (by intro n hn; simpa using (List.mem_filter.1 hn).2) g (List.mem_of_getElem? hg)
  omega
theorem runsTo_all {ns : List Int} {j : Int} (h : ∀ n ∈ ns, n < j) : runsTo ns j = runsF ns := by
  unfold runsTo; rw [List.filter_eq_self.2 (by simpa using h)]
theorem runsTo_none {ns : List Int} {j : Int} (h : ∀ n ∈ ns, j ≤ n) : runsTo ns j = [] := by
  unfold runsTo; rw [List.filter_eq_nil_iff.2 (by intro n hn; have := h n hn; simp; omega)]; rfl
theorem runsTo_len {ns : List Int} {j : Int} : (runsTo ns j).length ≤ ns.length := Nat.le_trans (runsF_len _) (List.length_filter_le _ _)

def farsF (x : DDatIn) : List Int := x.xSeen.map fun t => gapF x.xCum t 32
noncomputable def ackCum (x : DDatIn) : Int := if inOk x = true then x.xCum else 0
noncomputable def ackGaps (x : DDatIn) : List DFrmGap := if inOk x = true then (runsF (farsF x)).take 4 else []
theorem datAck_bd (x : DDatIn) (h : zDatIn x ≤ 1048576) : (ackGaps x).length ≤ 1048576 := by
  unfold ackGaps; split
  · rw [List.length_take]; omega
  · simp
/-- What was seen stands in order: how far each number is. -/
theorem fars_asc {x : DDatIn} (h : inOk x = true) : (farsF x).Pairwise (· < ·) ∧ ∀ n ∈ farsF x, 2 ≤ n ∧ n ≤ 16 := by
  simp only [inOk, Bool.and_eq_true] at h
  have hc := h.2.1
  have hall := h.2.2.2.2.1
  have hl : ∀ j, j ≤ x.xSeen.length → 61 ≤ lastOf 61 x.xCum x.xSeen j := by
    intro j
    induction j with
    | zero => intro _; simp [lastOf]
    | succ j ih =>
      intro hj
      have h1 := ih (by omega)
      have h2 := allI_at hall (show j < x.xSeen.length by omega)
      simp only [seenOk, Bool.and_eq_true, decide_eq_true_eq] at h2
      rw [lastOf_succ (by omega)]
      omega
  have hat : ∀ j (hj : j < x.xSeen.length), gapF x.xCum x.xSeen[j] 32 = posF x.xCum x.xSeen[j] - 60 ∧ lastOf 61 x.xCum x.xSeen j < posF x.xCum x.xSeen[j] ∧ posF x.xCum x.xSeen[j] ≤ 76 := by
    intro j hj
    have h1 := hl j (by omega)
    have h2 := allI_at hall hj
    simp only [seenOk, Bool.and_eq_true, decide_eq_true_eq] at h2
    exact ⟨far_of_pos hc h2.1 (by omega), h2.2⟩
  have hmono : ∀ d i, i + d + 1 < x.xSeen.length → ∀ (h1 : i < x.xSeen.length) (h2 : i + d + 1 < x.xSeen.length), posF x.xCum x.xSeen[i] < posF x.xCum x.xSeen[i + d + 1] := by
    intro d
    induction d with
    | zero =>
      intro i _ h1 h2
      have h3 := (hat (i + 1) h2).2.1
      rwa [lastOf_succ h1] at h3
    | succ d ih =>
      intro i _ h1 h2
      have h3 := ih i (by omega) h1 (by omega)
      have h4 := (hat (i + (d + 1) + 1) h2).2.1
      rw [lastOf_succ (show i + (d + 1) < x.xSeen.length by omega)] at h4
      have h5 : x.xSeen[i + d + 1]'(by omega) = x.xSeen[i + (d + 1)]'(by omega) := by congr 1
      rw [h5] at h3
      omega
  refine ⟨List.pairwise_iff_getElem.2 fun i j hi hj hij => ?_, fun n hn => ?_⟩
  · simp only [farsF, List.length_map] at hi hj
    simp only [farsF, List.getElem_map]
    obtain ⟨d, rfl⟩ : ∃ d, j = i + d + 1 := ⟨j - i - 1, by omega⟩
    have h1 := hmono d i (by omega) hi hj
    have h2 := (hat i hi).1
    have h3 := (hat _ hj).1
    omega
  · obtain ⟨t, ht, rfl⟩ := List.mem_map.1 hn
    obtain ⟨j, hj, rfl⟩ := List.getElem_of_mem ht
    have h1 := hat j hj
    have h2 := hl j (by omega)
    omega
theorem fars_bit {x : DDatIn} (h : ∀ n ∈ farsF x, 2 ≤ n ∧ n ≤ 16) (k : Nat) : (seenBits x.xCum x.xSeen).getLsbD k = decide ((k : Int) ∈ farsF x) := by
  rw [seenBits_get, Bool.eq_iff_iff, List.any_eq_true, decide_eq_true_eq]
  constructor
  · rintro ⟨u, hu, h1⟩
    simp only [Bool.and_eq_true, decide_eq_true_eq] at h1
    have h2 := h _ (List.mem_map.2 ⟨u, hu, rfl⟩)
    exact List.mem_map.2 ⟨u, hu, by omega⟩
  · intro hk
    have h2 := h _ hk
    obtain ⟨u, hu, h3⟩ := List.mem_map.1 hk
    exact ⟨u, hu, by simp; omega⟩
theorem OwL.first {α : Type} {e : TypeId} {m : Nat} {E : World → List Nat → List Value → α → Prop} {w : World} {bs : List Nat} {A : Option Addr} {n c k : Nat} {xs : List α} (h : OwL e m E w bs (.slice A n c) xs) (hk : k ≤ n) :
    ∃ bs', OwL e m E w bs' (.slice A k c) (xs.take k) ∧ (∀ b ∈ bs', b ∈ bs) ∧ (bs.Nodup → bs'.Nodup) := by
  have hlen := h.len
  obtain ⟨cells, fs, hr, hl, rfl, hx⟩ := h
  have hkm : k * m ≤ n * m := Nat.mul_le_mul_right _ hk
  have hcl : cells.length = n * m := by rw [← hlen]; exact hr.1
  have hfl : (fs.take k).flatten.Sublist fs.flatten := by
    conv => rhs; rw [← List.take_append_drop k fs, List.flatten_append]
    exact List.sublist_append_left _ _
  have hob : (Value.slice A k c).ownBlock.toList = (Value.slice A n c).ownBlock.toList := by cases A <;> rfl
  refine ⟨(Value.slice A k c).ownBlock.toList ++ (fs.take k).flatten, ⟨cells.take (k * m), fs.take k, ⟨?_, ?_⟩, ?_, rfl, ?_⟩, ?_, ?_⟩
  · rw [List.length_take, List.length_take, hlen, Nat.min_eq_left hk]; omega
  · rw [List.length_take, hlen, Nat.min_eq_left hk]
    rcases hr.2 with ⟨h1, h2⟩ | ⟨g, cap, cur, h1, h2, h3, h4, h5, h6, h7⟩
    · injection h1 with h1 h3 h4
      subst h1 h4
      have : k = 0 := by omega
      subst this
      exact .inl ⟨rfl, rfl⟩
    · injection h1 with h1 h8 h9
      subst h1 h9
      refine .inr ⟨g, _, cur, rfl, h2, h3, by omega, h5, h6, ?_⟩
      rw [← h7, List.take_take, hlen, Nat.min_eq_left hkm]
  · rw [List.length_take, List.length_take, hl]
  · intro j y f hy hf
    by_cases hjk : j < k
    · rw [List.getElem?_take_of_lt hjk] at hy hf
      have hj1 : (j + 1) * m ≤ k * m := Nat.mul_le_mul_right _ hjk
      rw [Nat.succ_mul] at hj1
      rw [List.drop_take, List.take_take, Nat.min_eq_left (by omega)]
      exact hx j y f hy hf
    · rw [List.getElem?_take_eq_none (by omega)] at hy; cases hy
  · intro b hb
    rw [hob] at hb
    rcases List.mem_append.1 hb with hb | hb
    · exact List.mem_append_left _ hb
    · exact List.mem_append_right _ (hfl.subset hb)
  · intro hnd
    rw [hob]
    exact (List.Sublist.append (List.Sublist.refl _) hfl).nodup hnd
set_option maxRecDepth 100000 in
theorem elemFrmGap : Elem Try.prog 117 223 2 := by
  obtain ⟨i0, hi0, hz0, hz1, hz2⟩ := info_parts2 info_FrmGap infob_FrmGap
  exact ⟨i0, _, Try.underlying117, hi0, hz0, hz1, hz2, rfl, by decide⟩
/-- The far end of a run, turned. -/
theorem OwFrmGapS.setTo {w : World} {f : List Nat} {g n c k : Nat} {xs : List DFrmGap} (h : OwL 223 2 EFrmGap w f (.slice (some ⟨g, 0, none⟩) n c) xs) (hnd : f.Nodup) (hk : k < n) {y : DFrmGap} (hy : xs[k]? = some y) :
    w.cell? ⟨g, k * 2 + 1, none⟩ = some (.int .i64 y.xTo) ∧ (∀ p, w.frozen? ⟨g, p, none⟩ = false) ∧ g ∈ f ∧ ∀ v : Int, OwL 223 2 EFrmGap (w.setCell ⟨g, k * 2 + 1, none⟩ (.int .i64 v)) f (.slice (some ⟨g, 0, none⟩) n c) (xs.set k { y with xTo := v }) := by
  obtain ⟨f', cs, pre, post, hjl, hE, hr, hpl, hcl, hgf, hfn, hfb, hgb, close⟩ := h.focus EFrmGap.framed EFrmGap.inside hnd hk
  have hyx : xs[k] = y := by rw [List.getElem?_eq_getElem hjl] at hy; injection hy
  rw [hyx] at hE
  obtain ⟨rfl, rfl⟩ := hE
  have FC : Foc 223 2 g n c k pre post w [.int .i64 y.xFrom, .int .i64 y.xTo] := ⟨hr, hpl, rfl, hk⟩
  refine ⟨FC.at (i := 1) rfl, fun p => FC.frozen p, hgb, fun v => ?_⟩
  have F2 := FC.set (i := 1) (v := .int .i64 v) (by decide)
  exact close _ _ _ F2.row F2.m ((FrL.refl (g :: []) w).set _ (by simp)) ⟨rfl, rfl⟩
end Go.Proofs.Ythdjjgbjemaabaa
