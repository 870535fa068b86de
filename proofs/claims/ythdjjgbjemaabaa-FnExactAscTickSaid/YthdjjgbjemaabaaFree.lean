/-
  A region that draws its order: a head whose operations, in whatever order, only make new memory (or none), each leaving a fact about its own slot that stays true while memory grows; then a tail that goes one behind the other. The facts of all head operations, with blocks that are apart, are there ahead of the tail. My own words, over the library's HeadInv, tail_waits and wpAny_of_seq.
-/
import Derived.StillTail
import Derived.Below
import Derived.Tactics
import Derived.KernelRfl
import Derived.Test.YthdjjgbjemaabaaKin
namespace Go.Proofs.Ythdjjgbjemaabaa
open Go.ChangeShapes Go.WideShapes Go.ChangeAt Go.RowKit
set_option linter.unusedSimpArgs false
set_option linter.unusedVariables false
section
variable {P : Program} {ops : Array Oper} {md : Region.Mode} {S : World → Prop} {φ : Nat → Value → World → List Nat → Prop} {grp : Nat → Nat}

/-- New blocks, or such as belonged to what it waits for, in its own group. -/
def NewOr (md : Region.Mode) (grp : Nat → Nat) (fp : Nat → List Nat) (i : Nat) (o : Oper) (w w' : World) (f : List Nat) : Prop :=
  f.Nodup ∧ ∀ b ∈ f, b < w'.heap.size ∧ (w.heap.size ≤ b ∨ ∃ e ∈ o.after, Region.binds md e = true ∧ grp e.on = grp i ∧ b ∈ fp e.on)
/-- What a head operation comes to: a value with its fact and its blocks. -/
def FreeUpon (P : Program) (md : Region.Mode) (S : World → Prop) (φ : Nat → Value → World → List Nat → Prop) (grp : Nat → Nat) (fp : Nat → List Nat) (i : Nat) (o : Oper) (w : World) : Result Next → Prop
  | .ok (.value u) w' => ∃ f, φ i u w' f ∧ NewOr md grp fp i o w w' f ∧ Below w.heap.size w w' ∧ S w'
  | .ok (.enter g args) w' => Calls P g args w' (fun e w'' => ∃ u f, e = .returned u ∧ φ i u w'' f ∧ NewOr md grp fp i o w w'' f ∧ Below w.heap.size w w'' ∧ S w'')
  | _ => False
/-- The facts that an operation may lean on: those of what it waits for. -/
def Deps (md : Region.Mode) (φ : Nat → Value → World → List Nat → Prop) (vals : Nat → Value) (fp : Nat → List Nat) (w : World) (o : Oper) : Prop :=
  ∀ e ∈ o.after, Region.binds md e = true → φ e.on (vals e.on) w (fp e.on) ∧ ∀ b ∈ fp e.on, b < w.heap.size
/-- Each operation of the head, in the order in which it is written, with whatever values. -/
def Steps (P : Program) (md : Region.Mode) (S : World → Prop) (φ : Nat → Value → World → List Nat → Prop) (grp : Nat → Nat) (vals : Nat → Value) : List Oper → Nat → Act → Prop
  | [], _, _ => True
  | o :: rest, k, a => (∀ w fp, S w → Deps md φ vals fp w o → FreeUpon P md S φ grp fp k o w ((execOp a.eval o).run P w)) ∧ Steps P md S φ grp vals rest (k + 1) (a.put o.dst (vals k))
def putAll (vals : Nat → Value) : List Oper → Nat → Act → Act
  | [], _, a => a
  | o :: rest, k, a => putAll vals rest (k + 1) (a.put o.dst (vals k))
/-- The slots of those that were done. -/
def putN (ops : Array Oper) (sel : Nat → Bool) (vals : Nat → Value) (a : Act) : Nat → Act
  | 0 => a
  | k + 1 => if sel k = true then (putN ops sel vals a k).put ((ops[k]?).bind (·.dst)) (vals k) else putN ops sel vals a k
def alike (L : List Tmp) (a b : Act) : Prop := a.tmps.size = b.tmps.size ∧ ∀ d ∈ L, a.tmps.getD d undef = b.tmps.getD d undef
theorem alike.put {L : List Tmp} {a b : Act} (h : alike L a b) (d : Option Tmp) (v : Value) : alike L (a.put d v) (b.put d v) := by
  cases d with
  | none => exact h
  | some d =>
    refine ⟨by simp [Act.put, h.1], fun e he => ?_⟩
    have h2 := h.2 e he
    simp only [Act.put, Array.getD_eq_getD_getElem?, Array.getElem?_setIfInBounds] at h2 ⊢
    rw [h.1]
    split
    · rfl
    · exact h2
theorem alike.left {L : List Tmp} {a b : Act} (h : alike L a b) (d : Option Tmp) (v : Value) (hd : ∀ e, d = some e → e ∉ L) : alike L (a.put d v) b := by
  cases d with
  | none => exact h
  | some d =>
    refine ⟨by simp [Act.put, h.1], fun e he => ?_⟩
    have hne : d ≠ e := fun hh => hd d rfl (hh ▸ he)
    simp only [Act.put, Array.getD_eq_getD_getElem?, Array.getElem?_setIfInBounds_ne hne]
    simpa only [Array.getD_eq_getD_getElem?] using h.2 e he
theorem alike.symm {L : List Tmp} {a b : Act} (h : alike L a b) : alike L b a := ⟨h.1.symm, fun d hd => (h.2 d hd).symm⟩
theorem alike.exec {o : Oper} {a b : Act} (h : alike (o.looksAt ops) a b) (hs : ∀ cs c, o.op ≠ .select cs c) : execOp a.eval o = execOp b.eval o :=
  execOp_congr o hs fun x hx => by
    cases x with
    | tmp t => exact h.2 t (List.mem_append_left _ (List.mem_filterMap.2 ⟨.tmp t, by simpa using hx, rfl⟩))
    | _ => rfl
theorem alike_putN {L : List Tmp} {vals : Nat → Value} {a : Act} (sel sel' : Nat → Bool) : ∀ n, (∀ k, k < n → sel k ≠ sel' k → ∀ e, (ops[k]?).bind (·.dst) = some e → e ∉ L) → alike L (putN ops sel vals a n) (putN ops sel' vals a n)
  | 0, _ => ⟨rfl, fun _ _ => rfl⟩
  | k + 1, h => by
    have ih := alike_putN (vals := vals) (a := a) sel sel' k (fun j hj => h j (by omega))
    unfold putN
    by_cases h1 : sel k = true <;> by_cases h2 : sel' k = true
    · simp only [h1, h2, if_true]; exact ih.put _ _
    · simp only [h1, h2, if_true, if_false]; exact ih.left _ _ (h k (by omega) (by rw [h1]; exact fun e => h2 e.symm))
    · simp only [h1, h2, if_true, if_false]; exact (ih.symm.left _ _ (h k (by omega) (by rw [h2]; exact h1))).symm
    · simp only [h1, h2, if_false]; exact ih
/-- One more is done. -/
theorem putN_set {sel : Nat → Bool} {vals : Nat → Value} {a : Act} {i : Nat} (v : Value) (hsel : sel i = false) : ∀ n, (∀ k, k < n → k ≠ i → ∀ d, (ops[i]?).bind (·.dst) = some d → (ops[k]?).bind (·.dst) ≠ some d) →
    putN ops (fun k => if k = i then true else sel k) (fun k => if k = i then v else vals k) a n = if i < n then (putN ops sel vals a n).put ((ops[i]?).bind (·.dst)) v else putN ops sel vals a n
  | 0, _ => by simp [putN]
  | k + 1, h => by
    have ih := putN_set (sel := sel) (vals := vals) (a := a) v hsel k (fun j hj => h j (by omega))
    unfold putN
    by_cases hki : k = i
    · subst hki
      simp only [if_true, hsel, Bool.false_eq_true, if_false, Nat.lt_succ_self]
      rw [ih, if_neg (by omega)]
    · simp only [hki, if_false]
      rw [ih]
      by_cases hs : sel k = true
      · simp only [hs, if_true]
        by_cases hik : i < k
        · rw [if_pos hik, if_pos (by omega)]
          exact (Act.put_comm _ _ _ (fun d hd => h k (by omega) hki d hd)).symm ▸ rfl
        · rw [if_neg hik, if_neg (by omega)]
      · simp only [hs, Bool.false_eq_true, if_false]
        by_cases hik : i < k
        · rw [if_pos hik, if_pos (by omega)]
        · rw [if_neg hik, if_neg (by omega)]
def headListed (size n : Nat) : Array Bool := ((List.range size).map fun i => decide (i < n)).toArray
/-- The region's form. -/
def freeB (md : Region.Mode) (ops : Array Oper) (n : Nat) : Bool :=
  Region.noSelect ops && decide (n < ops.size) && Region.sinkB md ops n && Region.chainB md ops n &&
  ((List.range n).all fun i => match ops[i]? with
    | some o => o.guard.isNone && o.after.all (fun e => !Region.binds md e || decide (e.on < i)) && (List.range n).all (fun j => decide (j = i) || (((ops[j]?).bind (·.dst) != o.dst) && (Region.waitsFor md ops i j || !((o.looksAt ops).any fun d => some d == (ops[j]?).bind (·.dst)))))
    | none => false) &&
  Region.seqB md ops (ops.size - n) n (headListed ops.size n)

def Facts (φ : Nat → Value → World → List Nat → Prop) (grp : Nat → Nat) (n N : Nat) (sel : Nat → Bool) (vals : Nat → Value) (fp : Nat → List Nat) (w : World) : Prop :=
  (∀ i, i < n → sel i = true → φ i (vals i) w (fp i) ∧ Nw N w.heap.size (fp i)) ∧ (∀ i j, i < n → j < n → grp i ≠ grp j → sel i = true → sel j = true → ∀ b ∈ fp i, b ∉ fp j)
def unl (listed : Array Bool) : Nat → Nat
  | 0 => 0
  | k + 1 => unl listed k + (if listed.getD k false = true then 0 else 1)
theorem unl_zero {listed : Array Bool} : ∀ n, unl listed n = 0 → ∀ i, i < n → listed.getD i false = true
  | 0, _, i, hi => by omega
  | k + 1, h, i, hi => by
    unfold unl at h
    by_cases hk : listed.getD k false = true
    · by_cases hik : i = k
      · subst hik; exact hk
      · exact unl_zero k (by omega) i (by omega)
    · rw [if_neg hk] at h; omega
theorem unl_pos {listed : Array Bool} : ∀ n, 0 < unl listed n → ∃ i, i < n ∧ listed.getD i false = false ∧ ∀ j, j < i → listed.getD j false = true
  | 0, h => by simp [unl] at h
  | k + 1, h => by
    by_cases h0 : 0 < unl listed k
    · obtain ⟨i, hi, h1, h2⟩ := unl_pos k h0
      exact ⟨i, by omega, h1, h2⟩
    · have hz : unl listed k = 0 := by omega
      unfold unl at h
      rw [hz] at h
      by_cases hk : listed.getD k false = true
      · rw [if_pos hk] at h; omega
      · exact ⟨k, by omega, by simpa using hk, fun j hj => unl_zero k hz j hj⟩
theorem getD_set_self {listed : Array Bool} {i : Nat} (hi : i < listed.size) : (listed.setIfInBounds i true).getD i false = true := by simp [hi]
theorem unl_set {listed : Array Bool} {i : Nat} (hi : i < listed.size) (hf : listed.getD i false = false) : ∀ n, unl (listed.setIfInBounds i true) n + (if i < n then 1 else 0) = unl listed n
  | 0 => by simp [unl]
  | k + 1 => by
    have ih := unl_set hi hf k
    unfold unl
    by_cases hik : i = k
    · subst hik
      rw [getD_set_self hi, hf]
      simp at ih ⊢
      omega
    · rw [getD_set_ne false hik]
      by_cases h1 : i < k
      · rw [if_pos h1] at ih; rw [if_pos (show i < k + 1 by omega)]; omega
      · rw [if_neg h1] at ih; rw [if_neg (show ¬ i < k + 1 by omega)]; omega
theorem putN_congr {sel sel' : Nat → Bool} {vals vals' : Nat → Value} {a : Act} : ∀ n, (∀ k, k < n → sel k = sel' k) → (∀ k, k < n → sel k = true → vals k = vals' k) → putN ops sel vals a n = putN ops sel' vals' a n
  | 0, _, _ => rfl
  | k + 1, h, hv => by
    unfold putN
    rw [← h k (by omega), putN_congr k (fun j hj => h j (by omega)) (fun j hj => hv j (by omega))]
    by_cases hs : sel k = true
    · rw [if_pos hs, if_pos hs, hv k (by omega) hs]
    · rw [if_neg hs, if_neg hs]
theorem free_parts {n : Nat} (h : freeB md ops n = true) : Region.noSelect ops = true ∧ n < ops.size ∧ Region.sinkB md ops n = true ∧ Region.chainB md ops n = true ∧
    (∀ i o, i < n → ops[i]? = some o → o.guard = none ∧ (∀ e ∈ o.after, Region.binds md e = true → e.on < i) ∧ ∀ j, j < n → j ≠ i → (ops[j]?).bind (·.dst) ≠ o.dst ∧ (Region.waitsFor md ops i j = true ∨ ∀ d, (ops[j]?).bind (·.dst) = some d → d ∉ o.looksAt ops)) ∧
    Region.seqB md ops (ops.size - n) n (headListed ops.size n) = true := by
  simp only [freeB, Bool.and_eq_true, decide_eq_true_eq] at h
  obtain ⟨⟨⟨⟨⟨h1, h2⟩, h3⟩, h4⟩, h5⟩, h6⟩ := h
  refine ⟨h1, h2, h3, h4, fun i o hi ho => ?_, h6⟩
  have h7 := List.all_eq_true.1 h5 i (List.mem_range.2 hi)
  simp only [ho, Bool.and_eq_true] at h7
  obtain ⟨⟨h8, h9⟩, h10⟩ := h7
  refine ⟨by simpa using h8, fun e he hb => ?_, fun j hj hji => ?_⟩
  · have := Array.all_eq_true'.1 h9 e he
    simp only [Bool.or_eq_true, hb, Bool.not_true, Bool.false_eq_true, false_or, decide_eq_true_eq] at this
    exact this
  · have h11 := List.all_eq_true.1 h10 j (List.mem_range.2 hj)
    simp only [hji, decide_false, Bool.false_or, Bool.and_eq_true, Bool.or_eq_true, bne_iff_ne, ne_eq] at h11
    refine ⟨h11.1, h11.2.imp id fun h12 d hd hm => ?_⟩
    rw [hd] at h12
    simp only [Bool.not_eq_true', List.any_eq_false] at h12
    exact h12 d hm (by simp)
theorem free_core {φ : (Nat → Value) → Nat → Value → World → List Nat → Prop} {Q : Exit → Act → World → Prop} {a : Act} {n N : Nat} {w0 : World} (hB : freeB md ops n = true) (hφ : ∀ vals i v w w' f, φ vals i v w f → Below w.heap.size w w' → φ vals i v w' f)
    (hloc : ∀ vals vals' i o v w f, ops[i]? = some o → (∀ e ∈ o.after, Region.binds md e = true → vals e.on = vals' e.on) → φ vals i v w f → φ vals' i v w f)
    (hsteps : ∀ vals i o, i < n → ops[i]? = some o → ∀ w fp, S w → Deps md (φ vals) vals fp w o → FreeUpon P md S (φ vals) grp fp i o w ((execOp (putN ops (fun k => decide (k < i)) vals a n).eval o).run P w))
    (hfin : ∀ vals fp w, S w → Below N w0 w → Facts (φ vals) grp n N (fun _ => true) vals fp w → wpAny P md ops Q (ops.size - n) (headListed ops.size n) (putN ops (fun _ => true) vals a n) w) :
    ∀ (f : Nat) (listed : Array Bool) (vals : Nat → Value) (fp : Nat → List Nat) (w : World), HeadInv md ops n listed → unl listed n = f → S w → N ≤ w.heap.size → Below N w0 w → Facts (φ vals) grp n N (fun i => listed.getD i false) vals fp w →
      wpAny P md ops Q (f + (ops.size - n)) listed (putN ops (fun k => listed.getD k false) vals a n) w := by
  obtain ⟨hsel, hn, hsk, hch, hhd, hsq⟩ := free_parts hB
  intro f
  induction f with
  | zero =>
    intro listed vals fp w inv hu hS hN hb hf
    have hall := unl_zero n hu
    have hl : listed = headListed ops.size n := by
      apply Array.ext
      · simp [headListed, inv.size]
      · intro i h1 h2
        have hio : i < ops.size := by rw [← inv.size]; exact h1
        simp only [headListed, List.getElem_toArray, List.getElem_map, List.getElem_range]
        by_cases hin : i < n
        · have := hall i hin
          simp [h1] at this
          simp [hin, this]
        · have := inv.tail i (by omega) hio
          simp [h1] at this
          simp [hin, this]
    rw [Nat.zero_add, putN_congr (sel' := fun _ => true) (vals' := vals) n (fun k hk => hall k hk) (fun _ _ _ => rfl)]
    rw [hl]
    exact hfin vals fp w hS hb ⟨fun i hi _ => hf.1 i hi (hall i hi), fun i j hi hj hne _ _ => hf.2 i j hi hj hne (hall i hi) (hall j hj)⟩
  | succ f ih =>
    intro listed vals fp w inv hu hS hN hb hf
    obtain ⟨i0, hi0, hun0, hmin⟩ := unl_pos n (by omega : 0 < unl listed n)
    have hi0s : i0 < ops.size := by omega
    have hr0 : i0 ∈ Region.ready md ops listed := by
      refine mem_ready.2 ⟨getD_in (by rw [inv.size]; exact hi0s) hun0, ops[i0], Array.getElem?_eq_getElem hi0s, fun e he hbd => ?_⟩
      exact hmin _ ((hhd i0 _ hi0 (Array.getElem?_eq_getElem hi0s)).2.1 e he hbd)
    rw [show f + 1 + (ops.size - n) = (f + (ops.size - n)) + 1 by omega]
    refine ⟨fun h0 => (by rw [h0] at hr0; cases hr0), fun i hi => ?_⟩
    have hin : i < n := by
      rcases Nat.lt_or_ge i n with h | h
      · exact h
      · exact absurd hi (tail_waits hsk hch hn inv _ i0 rfl hi0 (getD_in (by rw [inv.size]; exact hi0s) hun0) i h)
    obtain ⟨hiun, o, ho, hdep⟩ := mem_ready.1 hi
    obtain ⟨hg, hac, hap⟩ := hhd i o hin ho
    have hif := getD_both hiun
    have his : i < listed.size := by rw [inv.size]; omega
    have hex : execOp (putN ops (fun k => listed.getD k false) vals a n).eval o = execOp (putN ops (fun k => decide (k < i)) vals a n).eval o := by
      refine alike.exec (ops := ops) (alike_putN _ _ n (fun k hk hne e he hm => ?_)) (fun cs b => Region.noSelect_spec hsel i o cs b ho)
      have hki : k ≠ i := fun h => hne (by subst h; simp [hif])
      rcases (hap k hk hki).2 with hw | hw
      · obtain ⟨o', ho', e', he', hb', hon⟩ := Region.waitsFor_spec hw
        have : o' = o := Option.some.inj (ho'.symm.trans ho)
        subst this
        have h1 := hdep e' he' hb'
        have h2 := hac e' he' hb'
        rw [hon] at h1 h2
        exact hne (by simp only [h1, h2, decide_true])
      · exact hw e he hm
    have hst := hsteps vals i o hin ho w fp hS (fun e he hbd => ⟨(hf.1 e.on (by have := hac e he hbd; omega) (hdep e he hbd)).1, fun b hb => ((hf.1 e.on (by have := hac e he hbd; omega) (hdep e he hbd)).2.2 b hb).2⟩)
    have hdst : ∀ k, k < n → k ≠ i → ∀ d, (ops[i]?).bind (·.dst) = some d → (ops[k]?).bind (·.dst) ≠ some d := fun k hk hki d hd h2 => (hap k hk hki).1 (by rw [h2]; simpa [ho] using hd.symm)
    -- what stands behind it
    have next : ∀ u w' f', φ vals i u w' f' → NewOr md grp fp i o w w' f' → Below w.heap.size w w' → S w' → wpAny P md ops Q (f + (ops.size - n)) (listed.setIfInBounds i true) ((putN ops (fun k => listed.getD k false) vals a n).put o.dst u) w' := by
      intro u w' f' h1 h2 h3 h4
      have hp := putN_set (ops := ops) (sel := fun k => listed.getD k false) (vals := vals) (a := a) (i := i) u hif n hdst
      rw [if_pos hin] at hp
      have hod : (ops[i]?).bind (·.dst) = o.dst := by rw [ho]; rfl
      rw [hod] at hp
      rw [← hp]
      have hun := unl_set his hif n
      rw [if_pos hin] at hun
      have hgs : ∀ k, (listed.setIfInBounds i true).getD k false = if k = i then true else listed.getD k false := fun k => by
        by_cases hki : k = i
        · subst hki; rw [if_pos rfl]; exact getD_set_self his
        · rw [if_neg hki]; exact getD_set_ne false (Ne.symm hki)
      rw [putN_congr (sel' := fun k => (listed.setIfInBounds i true).getD k false) (vals' := fun k => if k = i then u else vals k) n (fun k _ => (hgs k).symm) (fun _ _ _ => rfl)]
      refine ih _ _ (fun k => if k = i then f' else fp k) w' (inv.set hi hin) (by omega) h4 (Nat.le_trans hN h3.size) (hb.trans (h3.mono hN)) ⟨fun k hk hl => ?_, fun k j hk hj hne hl hl' b hb1 hb2 => ?_⟩
      · by_cases hki : k = i
        · subst hki
          simp only [if_true]
          refine ⟨hloc _ _ _ o _ _ _ ho (fun e he hbd => (if_neg (by have := hac e he hbd; omega)).symm) h1, h2.1, fun b hb => ⟨?_, (h2.2 b hb).1⟩⟩
          rcases (h2.2 b hb).2 with h7 | ⟨e, he, hbd, _, hm⟩
          · exact Nat.le_trans hN h7
          · exact ((hf.1 e.on (by have := hac e he hbd; omega) (hdep e he hbd)).2.2 b hm).1
        · simp only [hki, if_false]
          replace hl : listed.getD k false = true := by have h := hl; simp only [hgs, hki, if_false] at h; exact h
          obtain ⟨h5, h6⟩ := hf.1 k hk hl
          obtain ⟨ok, hok⟩ : ∃ ok, ops[k]? = some ok := ⟨_, Array.getElem?_eq_getElem (by omega)⟩
          refine ⟨hloc _ _ _ ok _ _ _ hok (fun e he hbd => (if_neg (fun h => ?_)).symm) (hφ _ _ _ _ _ _ h5 h3), h6.1, fun b hb => ⟨(h6.2 b hb).1, Nat.lt_of_lt_of_le (h6.2 b hb).2 h3.size⟩⟩
          have h8 := inv.closed k ok hok hl e he hbd
          rw [h, hif] at h8
          cases h8
      · by_cases hki : k = i
        · by_cases hji : j = i
          · exact hne (by rw [hki, hji])
          · subst hki
            simp only [if_true, hji, if_false] at hb1 hb2
            replace hl' : listed.getD j false = true := by have h := hl'; simp only [hgs, hji, if_false] at h; exact h
            rcases (h2.2 b hb1).2 with h7 | ⟨e, he, hbd, hgr, hm⟩
            · have := ((hf.1 j hj hl').2.2 b hb2).2
              omega
            · exact hf.2 e.on j (by have := hac e he hbd; omega) hj (by rw [hgr]; exact hne) (hdep e he hbd) hl' b hm hb2
        · replace hl : listed.getD k false = true := by have h := hl; simp only [hgs, hki, if_false] at h; exact h
          by_cases hji : j = i
          · subst hji
            simp only [if_true, hki, if_false] at hb1 hb2
            rcases (h2.2 b hb2).2 with h7 | ⟨e, he, hbd, hgr, hm⟩
            · have := ((hf.1 k hk hl).2.2 b hb1).2
              omega
            · exact hf.2 k e.on hk (by have := hac e he hbd; omega) (by rw [hgr]; exact hne) hl (hdep e he hbd) b hb1 hm
          · replace hl' : listed.getD j false = true := by have h := hl'; simp only [hgs, hji, if_false] at h; exact h
            simp only [hki, hji, if_false] at hb1 hb2
            exact hf.2 k j hk hj hne hl hl' b hb1 hb2
    unfold wpOp
    simp only [ho]
    have hw : Region.wanted o (yielded ops (putN ops (fun k => listed.getD k false) vals a n).tmps) = true := by unfold Region.wanted; rw [hg]
    rw [if_pos hw]
    refine .inl ?_
    unfold Oper.wp
    rw [hex]
    generalize (execOp (putN ops (fun k => decide (k < i)) vals a n).eval o).run P w = r at *
    cases r with
    | ok m w' =>
      cases m <;> simp only [FreeUpon] at hst <;> simp only [Oper.upon]
      case value u => obtain ⟨f', h1, h2, h3, h4⟩ := hst; exact next u w' f' h1 h2 h3 h4
      case enter g args => exact hst.mono fun e w'' ⟨u, f', he, h1, h2, h3, h4⟩ => by subst he; exact next u w'' f' h1 h2 h3 h4
    | halt x w' => simp only [FreeUpon] at hst
theorem putAll_snoc (vals : Nat → Value) (o : Oper) : ∀ (l : List Oper) (k : Nat) (a : Act), putAll vals (l ++ [o]) k a = (putAll vals l k a).put o.dst (vals (k + l.length))
  | [], k, a => by simp [putAll]
  | x :: l, k, a => by simp only [List.cons_append, putAll]; rw [putAll_snoc vals o l (k + 1)]; simp [Nat.add_assoc, Nat.add_comm 1]
theorem putAll_putN (vals : Nat → Value) (l : List Oper) (a : Act) : ∀ i, i ≤ l.length → putAll vals (l.take i) 0 a = putN l.toArray (fun _ => true) vals a i
  | 0, _ => by simp [putAll, putN]
  | i + 1, h => by
    rw [List.take_succ_eq_append_getElem (by omega), putAll_snoc, putAll_putN vals l a i (by omega)]
    simp only [putN, if_true]
    simp [Nat.min_eq_left (show i ≤ l.length by omega), List.getElem?_eq_getElem (show i < l.length by omega)]
theorem putN_lt {vals : Nat → Value} {a : Act} {i : Nat} : ∀ n, i ≤ n → putN ops (fun k => decide (k < i)) vals a n = putN ops (fun _ => true) vals a i
  | 0, h => by have : i = 0 := by omega
               subst this; rfl
  | k + 1, h => by
    by_cases hik : i = k + 1
    · subst hik
      exact putN_congr _ (fun j hj => by simp [hj]) (fun _ _ _ => rfl)
    · rw [putN, if_neg (by simp only [decide_eq_true_eq]; omega)]
      exact putN_lt k (by omega)
theorem steps_get {vals : Nat → Value} : ∀ (l : List Oper) (k : Nat) (a : Act), Steps P md S φ grp vals l k a → ∀ j o, l[j]? = some o → ∀ w fp, S w → Deps md φ vals fp w o → FreeUpon P md S φ grp fp (k + j) o w ((execOp (putAll vals (l.take j) k a).eval o).run P w)
  | [], _, _, _, j, o, h => by simp at h
  | x :: l, k, a, hs, 0, o, h => by
    simp only [List.getElem?_cons_zero, Option.some.injEq] at h
    subst h
    exact hs.1
  | x :: l, k, a, hs, j + 1, o, h => by
    have := steps_get l (k + 1) _ hs.2 j o (by simpa using h)
    simpa [putAll, Nat.add_assoc, Nat.add_comm 1] using this
/-- The law. -/
theorem wp_region_free {id : Nat} {Q : Exit → Act → World → Prop} {a : Act} {w : World} {l : List Oper} (n : Nat) (S : World → Prop) (φ : (Nat → Value) → Nat → Value → World → List Nat → Prop) (grp : Nat → Nat) (hm : P.follows .mixedOrders = true) (hB : freeB .any l.toArray n = true)
    (hφ : ∀ vals i v w w' f, φ vals i v w f → Below w.heap.size w w' → φ vals i v w' f)
    (hloc : ∀ vals vals' i o v w f, l.toArray[i]? = some o → (∀ e ∈ o.after, Region.binds .any e = true → vals e.on = vals' e.on) → φ vals i v w f → φ vals' i v w f)
    (hS : S w.drew) (hsteps : ∀ vals, Steps P .any S (φ vals) grp vals (l.take n) 0 a)
    (hfin : ∀ vals fp w', S w' → Below w.heap.size w w' → Facts (φ vals) grp n w.heap.size (fun _ => true) vals fp w' → wpList P l.toArray Q (l.drop n) (putAll vals (l.take n) 0 a) w') : (Code.region id l.toArray true).wp P Q a w := by
  obtain ⟨hsel, hn, hsk, hch, hhd, hsq⟩ := free_parts hB
  have hnl : n < l.length := by simpa using hn
  have inv0 : HeadInv .any l.toArray n (Array.replicate l.toArray.size false) :=
    ⟨by simp, fun j oj _ hl => (by rw [getD_replicate_false] at hl; cases hl), fun t _ ht => getD_in (by simpa using ht) (getD_replicate_false _ _)⟩
  have hdl : (l.drop n).length = l.toArray.size - n := by simp
  have hu : ∀ k, unl (Array.replicate l.toArray.size false) k = k := fun k => by
    induction k with
    | zero => rfl
    | succ k ih => unfold unl; rw [ih, getD_replicate_false]; simp
  have hcore := free_core (P := P) (ops := l.toArray) (md := .any) (S := S) (φ := φ) (grp := grp) (Q := Q) (a := a) (n := n) (N := w.heap.size) (w0 := w) hB hφ hloc
    (fun vals i o hi ho w1 fp1 hS1 hd => by
      rw [putN_lt n (by omega), ← putAll_putN vals l a i (by omega)]
      have h1 := steps_get (l.take n) 0 a (hsteps vals) i o (by rw [List.getElem?_take, if_pos hi]; simpa using ho) w1 fp1 hS1 hd
      rw [List.take_take, Nat.min_eq_left (by omega), Nat.zero_add] at h1
      exact h1)
    (fun vals fp w1 hS1 hb1 hf1 => by
      have h1 := hfin vals fp w1 hS1 hb1 hf1
      rw [putAll_putN vals l a n (by omega)] at h1
      have h2 := wpAny_of_seq (md := .any) (Q' := Q) (l.drop n) n (headListed l.toArray.size n) _ w1 (fun j => by simp [List.getElem?_drop]) (by rw [hdl]; exact hsq) h1
      rwa [hdl] at h2)
    n (Array.replicate l.toArray.size false) (fun _ => undef) (fun _ => []) w.drew inv0 (hu n) hS (Nat.le_refl _) (Below.refl _ _).drew
    ⟨fun i _ h => absurd h (by simp only [getD_replicate_false]; simp), fun i j _ _ _ h => absurd h (by simp only [getD_replicate_false]; simp)⟩
  refine wp_region_any hm ?_
  have hz : putN l.toArray (fun k => (Array.replicate l.toArray.size false).getD k false) (fun _ => undef) a n = a := by
    have : ∀ k, putN l.toArray (fun k => (Array.replicate l.toArray.size false).getD k false) (fun _ => undef) a k = a := fun k => by
      induction k with
      | zero => rfl
      | succ k ih => unfold putN; rw [if_neg (by rw [getD_replicate_false]; simp)]; exact ih
    exact this n
  rw [hz, show n + (l.toArray.size - n) = l.toArray.size by omega] at hcore
  exact hcore
theorem NewOr.of {fp : Nat → List Nat} {i : Nat} {o : Oper} {w w' : World} {f : List Nat} (h : Nw w.heap.size w'.heap.size f) : NewOr md grp fp i o w w' f := ⟨h.1, fun b hb => ⟨(h.2 b hb).2, .inl (h.2 b hb).1⟩⟩
theorem FreeUpon.pure {fp : Nat → List Nat} {i : Nat} {o : Oper} {w : World} {r : Result Next} (u : Value) (hr : r = .ok (.value u) w) (h : φ i u w []) (hS : S w) : FreeUpon P md S φ grp fp i o w r := by
  rw [hr]; exact ⟨[], h, .of (Nw.nil _ _), Below.refl _ _, hS⟩
theorem FreeUpon.val {fp : Nat → List Nat} {i : Nat} {o : Oper} {w w' : World} {r : Result Next} {u : Value} {f : List Nat} (hr : r = .ok (.value u) w') (h : φ i u w' f) (hn : Nw w.heap.size w'.heap.size f) (hb : Below w.heap.size w w') (hS : S w') : FreeUpon P md S φ grp fp i o w r := by
  rw [hr]; exact ⟨f, h, .of hn, hb, hS⟩
theorem FreeUpon.took {fp : Nat → List Nat} {i : Nat} {o : Oper} {w w' : World} {r : Result Next} {u : Value} {f : List Nat} (hr : r = .ok (.value u) w') (h : φ i u w' f) (hn : NewOr md grp fp i o w w' f) (hb : Below w.heap.size w w') (hS : S w') : FreeUpon P md S φ grp fp i o w r := by
  rw [hr]; exact ⟨f, h, hn, hb, hS⟩
theorem FreeUpon.call {fp : Nat → List Nat} {i : Nat} {o : Oper} {w : World} {r : Result Next} {g : FuncId} {args : Array Value} (hr : r = .ok (.enter g args) w)
    (hc : Calls P g args w (fun e w'' => ∃ u f, e = .returned u ∧ φ i u w'' f ∧ Nw w.heap.size w''.heap.size f ∧ Below w.heap.size w w'' ∧ S w'')) : FreeUpon P md S φ grp fp i o w r := by
  rw [hr]; exact hc.mono fun e w'' ⟨u, f, h1, h2, h3, h4, h5⟩ => ⟨u, f, h1, h2, .of h3, h4, h5⟩
theorem Nw.join {lo hi : Nat} {f g : List Nat} (h : Nw lo hi f) (k : Nw lo hi g) (hd : ∀ b ∈ f, b ∉ g) : Nw lo hi (f ++ g) :=
  ⟨List.nodup_append.2 ⟨h.1, k.1, fun a ha b hb he => hd a ha (he ▸ hb)⟩, fun b hb => (List.mem_append.1 hb).elim (h.2 b) (k.2 b)⟩
end
end Go.Proofs.Ythdjjgbjemaabaa
