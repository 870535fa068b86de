/-
  (FreeG: as Free, but operations of the head may have guards: one that is not wanted leaves 'undef' in its slot, and its fact is asked of that.)
  A region that draws its order: a head whose operations, in whatever order, only make new memory (or none), each leaving a fact about its own slot that stays true while memory grows; then a tail that goes one behind the other. The facts of all head operations, with blocks that are apart, are there ahead of the tail. My own words, over the library's HeadInv, tail_waits and wpAny_of_seq.
-/
import Derived.StillTail
import Derived.Below
import Derived.Tactics
import Derived.KernelRfl
import Derived.Test.YthdjjgbjemaabaaFree
namespace Go.Proofs.Ythdjjgbjemaabaa
open Go.ChangeShapes Go.WideShapes Go.ChangeAt Go.RowKit
set_option linter.unusedSimpArgs false
set_option linter.unusedVariables false
section
variable {P : Program} {ops : Array Oper} {md : Region.Mode} {S : World → Prop} {φ : Nat → Value → World → List Nat → Prop} {grp : Nat → Nat}

/-- Each operation of the head, in the order in which it is written, with whatever values; where its guard bars it, its fact is one of 'undef'. -/
def StepsG (P : Program) (ops : Array Oper) (md : Region.Mode) (S : World → Prop) (φ : Nat → Value → World → List Nat → Prop) (grp : Nat → Nat) (vals : Nat → Value) : List Oper → Nat → Act → Prop
  | [], _, _ => True
  | o :: rest, k, a => (∀ w fp, S w → Deps md φ vals fp w o → (Region.wanted o (yielded ops a.tmps) = true ∧ FreeUpon P md S φ grp fp k o w ((execOp a.eval o).run P w)) ∨ (Region.wanted o (yielded ops a.tmps) = false ∧ φ k undef w [])) ∧ StepsG P ops md S φ grp vals rest (k + 1) (a.put o.dst (vals k))
theorem alike.wanted {o : Oper} {a b : Act} (h : alike (o.looksAt ops) a b) : Region.wanted o (yielded ops a.tmps) = Region.wanted o (yielded ops b.tmps) := by
  unfold Region.wanted
  cases hg : o.guard with
  | none => rfl
  | some gw =>
    obtain ⟨g, want⟩ := gw
    have hy : yielded ops a.tmps g = yielded ops b.tmps g := by
      unfold yielded
      cases hd : (ops[g]?).bind (·.dst) with
      | none => rfl
      | some d =>
        have hm : d ∈ o.looksAt ops := by
          unfold Oper.looksAt
          rw [hg]
          exact List.mem_append_right _ (by show d ∈ ((ops[g]?).bind (·.dst)).toList; rw [hd]; simp)
        have h2 := h.2 d hm
        have h1 := h.1
        have he : a.tmps[d]? = b.tmps[d]? := by
          by_cases hda : d < a.tmps.size
          · have hdb : d < b.tmps.size := h1 ▸ hda
            simp only [Array.getD_eq_getD_getElem?, Array.getElem?_eq_getElem hda, Array.getElem?_eq_getElem hdb, Option.getD_some] at h2
            rw [Array.getElem?_eq_getElem hda, Array.getElem?_eq_getElem hdb, h2]
          · rw [Array.getElem?_eq_none (Nat.not_lt.1 hda), Array.getElem?_eq_none (by rw [← h1]; exact Nat.not_lt.1 hda)]
        simp only [Option.bind_some, he]
    simp only [hy]
/-- The region's form. -/
def freeGB (md : Region.Mode) (ops : Array Oper) (n : Nat) : Bool :=
  Region.noSelect ops && decide (n < ops.size) && Region.sinkB md ops n && Region.chainB md ops n &&
  ((List.range n).all fun i => match ops[i]? with
    | some o => o.after.all (fun e => !Region.binds md e || decide (e.on < i)) && (List.range n).all (fun j => decide (j = i) || (((ops[j]?).bind (·.dst)).isSome && ((ops[j]?).bind (·.dst) != o.dst) && (Region.waitsFor md ops i j || !((o.looksAt ops).any fun d => some d == (ops[j]?).bind (·.dst)))))
    | none => false) &&
  Region.seqB md ops (ops.size - n) n (headListed ops.size n)

theorem freeG_parts {n : Nat} (h : freeGB md ops n = true) : Region.noSelect ops = true ∧ n < ops.size ∧ Region.sinkB md ops n = true ∧ Region.chainB md ops n = true ∧
    (∀ i o, i < n → ops[i]? = some o → (∀ e ∈ o.after, Region.binds md e = true → e.on < i) ∧ ∀ j, j < n → j ≠ i → (ops[j]?).bind (·.dst) ≠ o.dst ∧ (Region.waitsFor md ops i j = true ∨ ∀ d, (ops[j]?).bind (·.dst) = some d → d ∉ o.looksAt ops)) ∧
    Region.seqB md ops (ops.size - n) n (headListed ops.size n) = true := by
  simp only [freeGB, Bool.and_eq_true, decide_eq_true_eq] at h
  obtain ⟨⟨⟨⟨⟨h1, h2⟩, h3⟩, h4⟩, h5⟩, h6⟩ := h
  refine ⟨h1, h2, h3, h4, fun i o hi ho => ?_, h6⟩
  have h7 := List.all_eq_true.1 h5 i (List.mem_range.2 hi)
  simp only [ho, Bool.and_eq_true] at h7
  obtain ⟨h9, h10⟩ := h7
  refine ⟨fun e he hb => ?_, fun j hj hji => ?_⟩
  · have := Array.all_eq_true'.1 h9 e he
    simp only [Bool.or_eq_true, hb, Bool.not_true, Bool.false_eq_true, false_or, decide_eq_true_eq] at this
    exact this
  · have h11 := List.all_eq_true.1 h10 j (List.mem_range.2 hj)
    simp only [hji, decide_false, Bool.false_or, Bool.and_eq_true, Bool.or_eq_true, bne_iff_ne, ne_eq] at h11
    refine ⟨h11.1.2, h11.2.imp id fun h12 d hd hm => ?_⟩
    rw [hd] at h12
    simp only [Bool.not_eq_true', List.any_eq_false] at h12
    exact h12 d hm (by simp)
theorem freeG_core {φ : (Nat → Value) → Nat → Value → World → List Nat → Prop} {Q : Exit → Act → World → Prop} {a : Act} {n N : Nat} {w0 : World} (hB : freeGB md ops n = true) (hφ : ∀ vals i v w w' f, φ vals i v w f → Below w.heap.size w w' → φ vals i v w' f)
    (hloc : ∀ vals vals' i o v w f, ops[i]? = some o → (∀ e ∈ o.after, Region.binds md e = true → vals e.on = vals' e.on) → φ vals i v w f → φ vals' i v w f)
    (hsteps : ∀ vals i o, i < n → ops[i]? = some o → ∀ w fp, S w → Deps md (φ vals) vals fp w o → (Region.wanted o (yielded ops (putN ops (fun k => decide (k < i)) vals a n).tmps) = true ∧ FreeUpon P md S (φ vals) grp fp i o w ((execOp (putN ops (fun k => decide (k < i)) vals a n).eval o).run P w)) ∨ (Region.wanted o (yielded ops (putN ops (fun k => decide (k < i)) vals a n).tmps) = false ∧ φ vals i undef w []))
    (hfin : ∀ vals fp w, S w → Below N w0 w → Facts (φ vals) grp n N (fun _ => true) vals fp w → wpAny P md ops Q (ops.size - n) (headListed ops.size n) (putN ops (fun _ => true) vals a n) w) :
    ∀ (f : Nat) (listed : Array Bool) (vals : Nat → Value) (fp : Nat → List Nat) (w : World), HeadInv md ops n listed → unl listed n = f → S w → N ≤ w.heap.size → Below N w0 w → Facts (φ vals) grp n N (fun i => listed.getD i false) vals fp w →
      wpAny P md ops Q (f + (ops.size - n)) listed (putN ops (fun k => listed.getD k false) vals a n) w := by
  obtain ⟨hsel, hn, hsk, hch, hhd, hsq⟩ := freeG_parts hB
  intro f
  induction f with
  | zero =>
    intro listed vals fp w inv hu hS hN hb hf
    have hall := unl_zero n hu
    have hl : listed = headListed ops.size n := by
      apply Array.ext
      · simp [headListed, inv.size]
      · intro i h1 h2
        have hio : i < ops.size := by rw [← inv.size]; exact h1
        simp only [headListed, List.getElem_toArray, List.getElem_map, List.getElem_range]
        by_cases hin : i < n
        · have := hall i hin
          simp [h1] at this
          simp [hin, this]
        · have := inv.tail i (by omega) hio
          simp [h1] at this
          simp [hin, this]
    rw [Nat.zero_add, putN_congr (sel' := fun _ => true) (vals' := vals) n (fun k hk => hall k hk) (fun _ _ _ => rfl)]
    rw [hl]
    exact hfin vals fp w hS hb ⟨fun i hi _ => hf.1 i hi (hall i hi), fun i j hi hj hne _ _ => hf.2 i j hi hj hne (hall i hi) (hall j hj)⟩
  | succ f ih =>
    intro listed vals fp w inv hu hS hN hb hf
    obtain ⟨i0, hi0, hun0, hmin⟩ := unl_pos n (by omega : 0 < unl listed n)
    have hi0s : i0 < ops.size := by omega
    have hr0 : i0 ∈ Region.ready md ops listed := by
      refine mem_ready.2 ⟨getD_in (by rw [inv.size]; exact hi0s) hun0, ops[i0], Array.getElem?_eq_getElem hi0s, fun e he hbd => ?_⟩
      exact hmin _ ((hhd i0 _ hi0 (Array.getElem?_eq_getElem hi0s)).1 e he hbd)
    rw [show f + 1 + (ops.size - n) = (f + (ops.size - n)) + 1 by omega]
    refine ⟨fun h0 => (by rw [h0] at hr0; cases hr0), fun i hi => ?_⟩
    have hin : i < n := by
      rcases Nat.lt_or_ge i n with h | h
      · exact h
      · exact absurd hi (tail_waits hsk hch hn inv _ i0 rfl hi0 (getD_in (by rw [inv.size]; exact hi0s) hun0) i h)
    obtain ⟨hiun, o, ho, hdep⟩ := mem_ready.1 hi
    obtain ⟨hac, hap⟩ := hhd i o hin ho
    have hif := getD_both hiun
    have his : i < listed.size := by rw [inv.size]; omega
    have hal : alike (o.looksAt ops) (putN ops (fun k => listed.getD k false) vals a n) (putN ops (fun k => decide (k < i)) vals a n) := by
      refine alike_putN _ _ n (fun k hk hne e he hm => ?_)
      have hki : k ≠ i := fun h => hne (by subst h; simp [hif])
      rcases (hap k hk hki).2 with hw | hw
      · obtain ⟨o', ho', e', he', hb', hon⟩ := Region.waitsFor_spec hw
        have : o' = o := Option.some.inj (ho'.symm.trans ho)
        subst this
        have h1 := hdep e' he' hb'
        have h2 := hac e' he' hb'
        rw [hon] at h1 h2
        exact hne (by simp only [h1, h2, decide_true])
      · exact hw e he hm
    have hex : execOp (putN ops (fun k => listed.getD k false) vals a n).eval o = execOp (putN ops (fun k => decide (k < i)) vals a n).eval o := alike.exec (ops := ops) hal (fun cs b => Region.noSelect_spec hsel i o cs b ho)
    have hwt := alike.wanted (ops := ops) hal
    have hst := hsteps vals i o hin ho w fp hS (fun e he hbd => ⟨(hf.1 e.on (by have := hac e he hbd; omega) (hdep e he hbd)).1, fun b hb => ((hf.1 e.on (by have := hac e he hbd; omega) (hdep e he hbd)).2.2 b hb).2⟩)
    have hdst : ∀ k, k < n → k ≠ i → ∀ d, (ops[i]?).bind (·.dst) = some d → (ops[k]?).bind (·.dst) ≠ some d := fun k hk hki d hd h2 => (hap k hk hki).1 (by rw [h2]; simpa [ho] using hd.symm)
    -- what stands behind it
    have next : ∀ u w' f', φ vals i u w' f' → NewOr md grp fp i o w w' f' → Below w.heap.size w w' → S w' → wpAny P md ops Q (f + (ops.size - n)) (listed.setIfInBounds i true) ((putN ops (fun k => listed.getD k false) vals a n).put o.dst u) w' := by
      intro u w' f' h1 h2 h3 h4
      have hp := putN_set (ops := ops) (sel := fun k => listed.getD k false) (vals := vals) (a := a) (i := i) u hif n hdst
      rw [if_pos hin] at hp
      have hod : (ops[i]?).bind (·.dst) = o.dst := by rw [ho]; rfl
      rw [hod] at hp
      rw [← hp]
      have hun := unl_set his hif n
      rw [if_pos hin] at hun
      have hgs : ∀ k, (listed.setIfInBounds i true).getD k false = if k = i then true else listed.getD k false := fun k => by
        by_cases hki : k = i
        · subst hki; rw [if_pos rfl]; exact getD_set_self his
        · rw [if_neg hki]; exact getD_set_ne false (Ne.symm hki)
      rw [putN_congr (sel' := fun k => (listed.setIfInBounds i true).getD k false) (vals' := fun k => if k = i then u else vals k) n (fun k _ => (hgs k).symm) (fun _ _ _ => rfl)]
      refine ih _ _ (fun k => if k = i then f' else fp k) w' (inv.set hi hin) (by omega) h4 (Nat.le_trans hN h3.size) (hb.trans (h3.mono hN)) ⟨fun k hk hl => ?_, fun k j hk hj hne hl hl' b hb1 hb2 => ?_⟩
      · by_cases hki : k = i
        · subst hki
          simp only [if_true]
          refine ⟨hloc _ _ _ o _ _ _ ho (fun e he hbd => (if_neg (by have := hac e he hbd; omega)).symm) h1, h2.1, fun b hb => ⟨?_, (h2.2 b hb).1⟩⟩
          rcases (h2.2 b hb).2 with h7 | ⟨e, he, hbd, _, hm⟩
          · exact Nat.le_trans hN h7
          · exact ((hf.1 e.on (by have := hac e he hbd; omega) (hdep e he hbd)).2.2 b hm).1
        · simp only [hki, if_false]
          replace hl : listed.getD k false = true := by have h := hl; simp only [hgs, hki, if_false] at h; exact h
          obtain ⟨h5, h6⟩ := hf.1 k hk hl
          obtain ⟨ok, hok⟩ : ∃ ok, ops[k]? = some ok := ⟨_, Array.getElem?_eq_getElem (by omega)⟩
          refine ⟨hloc _ _ _ ok _ _ _ hok (fun e he hbd => (if_neg (fun h => ?_)).symm) (hφ _ _ _ _ _ _ h5 h3), h6.1, fun b hb => ⟨(h6.2 b hb).1, Nat.lt_of_lt_of_le (h6.2 b hb).2 h3.size⟩⟩
          have h8 := inv.closed k ok hok hl e he hbd
          rw [h, hif] at h8
          cases h8
      · by_cases hki : k = i
        · by_cases hji : j = i
          · exact hne (by rw [hki, hji])
          · subst hki
            simp only [if_true, hji, if_false] at hb1 hb2
            replace hl' : listed.getD j false = true := by have h := hl'; simp only [hgs, hji, if_false] at h; exact h
            rcases (h2.2 b hb1).2 with h7 | ⟨e, he, hbd, hgr, hm⟩
            · have := ((hf.1 j hj hl').2.2 b hb2).2
              omega
            · exact hf.2 e.on j (by have := hac e he hbd; omega) hj (by rw [hgr]; exact hne) (hdep e he hbd) hl' b hm hb2
        · replace hl : listed.getD k false = true := by have h := hl; simp only [hgs, hki, if_false] at h; exact h
          by_cases hji : j = i
          · subst hji
            simp only [if_true, hki, if_false] at hb1 hb2
            rcases (h2.2 b hb2).2 with h7 | ⟨e, he, hbd, hgr, hm⟩
            · have := ((hf.1 k hk hl).2.2 b hb1).2
              omega
            · exact hf.2 k e.on hk (by have := hac e he hbd; omega) (by rw [hgr]; exact hne) hl (hdep e he hbd) b hb1 hm
          · replace hl' : listed.getD j false = true := by have h := hl'; simp only [hgs, hji, if_false] at h; exact h
            simp only [hki, hji, if_false] at hb1 hb2
            exact hf.2 k j hk hj hne hl hl' b hb1 hb2
    unfold wpOp
    simp only [ho]
    rcases hst with ⟨hw, hst⟩ | ⟨hw, hst⟩
    · rw [if_pos (by rw [hwt]; exact hw)]
      refine .inl ?_
      unfold Oper.wp
      rw [hex]
      generalize (execOp (putN ops (fun k => decide (k < i)) vals a n).eval o).run P w = r at *
      cases r with
      | ok m w' =>
        cases m <;> simp only [FreeUpon] at hst <;> simp only [Oper.upon]
        case value u => obtain ⟨f', h1, h2, h3, h4⟩ := hst; exact next u w' f' h1 h2 h3 h4
        case enter g args => exact hst.mono fun e w'' ⟨u, f', he, h1, h2, h3, h4⟩ => by subst he; exact next u w'' f' h1 h2 h3 h4
      | halt x w' => simp only [FreeUpon] at hst
    · rw [if_neg (by rw [hwt, hw]; simp)]
      exact next undef w [] hst (.of (Nw.nil _ _)) (Below.refl _ _) hS
theorem stepsG_get {vals : Nat → Value} : ∀ (l : List Oper) (k : Nat) (a : Act), StepsG P ops md S φ grp vals l k a → ∀ j o, l[j]? = some o → ∀ w fp, S w → Deps md φ vals fp w o → (Region.wanted o (yielded ops (putAll vals (l.take j) k a).tmps) = true ∧ FreeUpon P md S φ grp fp (k + j) o w ((execOp (putAll vals (l.take j) k a).eval o).run P w)) ∨ (Region.wanted o (yielded ops (putAll vals (l.take j) k a).tmps) = false ∧ φ (k + j) undef w [])
  | [], _, _, _, j, o, h => by simp at h
  | x :: l, k, a, hs, 0, o, h => by
    simp only [List.getElem?_cons_zero, Option.some.injEq] at h
    subst h
    exact hs.1
  | x :: l, k, a, hs, j + 1, o, h => by
    have := stepsG_get l (k + 1) _ hs.2 j o (by simpa using h)
    simpa [putAll, Nat.add_assoc, Nat.add_comm 1] using this
/-- The law. -/
theorem wp_region_freeG {id : Nat} {Q : Exit → Act → World → Prop} {a : Act} {w : World} {l : List Oper} (n : Nat) (S : World → Prop) (φ : (Nat → Value) → Nat → Value → World → List Nat → Prop) (grp : Nat → Nat) (hm : P.follows .mixedOrders = true) (hB : freeGB .any l.toArray n = true)
    (hφ : ∀ vals i v w w' f, φ vals i v w f → Below w.heap.size w w' → φ vals i v w' f)
    (hloc : ∀ vals vals' i o v w f, l.toArray[i]? = some o → (∀ e ∈ o.after, Region.binds .any e = true → vals e.on = vals' e.on) → φ vals i v w f → φ vals' i v w f)
    (hS : S w.drew) (hsteps : ∀ vals, StepsG P l.toArray .any S (φ vals) grp vals (l.take n) 0 a)
    (hfin : ∀ vals fp w', S w' → Below w.heap.size w w' → Facts (φ vals) grp n w.heap.size (fun _ => true) vals fp w' → wpList P l.toArray Q (l.drop n) (putAll vals (l.take n) 0 a) w') : (Code.region id l.toArray true).wp P Q a w := by
  obtain ⟨hsel, hn, hsk, hch, hhd, hsq⟩ := freeG_parts hB
  have hnl : n < l.length := by simpa using hn
  have inv0 : HeadInv .any l.toArray n (Array.replicate l.toArray.size false) :=
    ⟨by simp, fun j oj _ hl => (by rw [getD_replicate_false] at hl; cases hl), fun t _ ht => getD_in (by simpa using ht) (getD_replicate_false _ _)⟩
  have hdl : (l.drop n).length = l.toArray.size - n := by simp
  have hu : ∀ k, unl (Array.replicate l.toArray.size false) k = k := fun k => by
    induction k with
    | zero => rfl
    | succ k ih => unfold unl; rw [ih, getD_replicate_false]; simp
  have hcore := freeG_core (P := P) (ops := l.toArray) (md := .any) (S := S) (φ := φ) (grp := grp) (Q := Q) (a := a) (n := n) (N := w.heap.size) (w0 := w) hB hφ hloc
    (fun vals i o hi ho w1 fp1 hS1 hd => by
      rw [putN_lt n (by omega), ← putAll_putN vals l a i (by omega)]
      have h1 := stepsG_get (l.take n) 0 a (hsteps vals) i o (by rw [List.getElem?_take, if_pos hi]; simpa using ho) w1 fp1 hS1 hd
      rw [List.take_take, Nat.min_eq_left (by omega), Nat.zero_add] at h1
      exact h1)
    (fun vals fp w1 hS1 hb1 hf1 => by
      have h1 := hfin vals fp w1 hS1 hb1 hf1
      rw [putAll_putN vals l a n (by omega)] at h1
      have h2 := wpAny_of_seq (md := .any) (Q' := Q) (l.drop n) n (headListed l.toArray.size n) _ w1 (fun j => by simp [List.getElem?_drop]) (by rw [hdl]; exact hsq) h1
      rwa [hdl] at h2)
    n (Array.replicate l.toArray.size false) (fun _ => undef) (fun _ => []) w.drew inv0 (hu n) hS (Nat.le_refl _) (Below.refl _ _).drew
    ⟨fun i _ h => absurd h (by simp only [getD_replicate_false]; simp), fun i j _ _ _ h => absurd h (by simp only [getD_replicate_false]; simp)⟩
  refine wp_region_any hm ?_
  have hz : putN l.toArray (fun k => (Array.replicate l.toArray.size false).getD k false) (fun _ => undef) a n = a := by
    have : ∀ k, putN l.toArray (fun k => (Array.replicate l.toArray.size false).getD k false) (fun _ => undef) a k = a := fun k => by
      induction k with
      | zero => rfl
      | succ k ih => unfold putN; rw [if_neg (by rw [getD_replicate_false]; simp)]; exact ih
    exact this n
  rw [hz, show n + (l.toArray.size - n) = l.toArray.size by omega] at hcore
  exact hcore
end
end Go.Proofs.Ythdjjgbjemaabaa
