/-
  A cookie is baked: one plain function, and the model's contract.
-/
import Derived.Test.YtbceikhmoblacaaAscMacF
import Derived.Test.YtbceikhmoblacaaOctPut
import Derived.Test.YtbceikhmoblacaaAppI
import Derived.Test.YtbceikhmoblacaaPth
import Derived.Test.YtbceikhmoblacaaFree
import Derived.BigQuiet
namespace Go.Proofs.Ytbceikhmoblacaa
open Go.ChangeShapes Go.WideShapes Go.ChangeAt Go.RowKit
set_option linter.unusedVariables false
set_option linter.unusedSimpArgs false

def fitsC (x : DAscCookie) : Bool := inB x.xMe 0 65535 && (inB x.xPeer 0 65535 && (inB x.xTag 1 4294967295 && (inB x.xPeerTag 1 4294967295 && (inB x.xTsn 0 4294967295 && (inB x.xPeerTsn 0 4294967295 && (inB x.xStreams 1 8 && (inB x.xMade 0 1000000 && (inB x.xOldTag 0 4294967295 && inB x.xOldPeerTag 0 4294967295))))))))
def numsF (s : Int) (ns : List Int) : List UInt8 := ns.flatMap (fun n => putF n s)
theorem numsF_len (s : Int) (ns : List Int) : (numsF s ns).length ≤ 4 * ns.length := by
  induction ns with
  | nil => simp [numsF]
  | cons n ns ih =>
    have h := putF_len n s
    unfold numsF at ih ⊢
    rw [List.flatMap_cons, List.length_append, List.length_cons]
    omega
theorem numsF_succ {s : Int} {ns : List Int} {j : Nat} (h : j < ns.length) : numsF s (ns.take (j + 1)) = numsF s (ns.take j) ++ putF ns[j] s := by
  unfold numsF
  rw [List.take_succ_eq_append_getElem h, List.flatMap_append]
  simp
def bakeF (s : Int) (x : DAscCookie) : List UInt8 := if fitsC x = true then numsF 4 (fieldsF x ++ [macF s x]) else []
theorem ascBake_bd (s : Int) (x : DAscCookie) : (bakeF s x).length ≤ 1048576 := by
  unfold bakeF
  split
  · have h := numsF_len 4 (fieldsF x ++ [macF s x])
    have h1 : (fieldsF x ++ [macF s x]).length = 11 := rfl
    omega
  · simp
set_option maxHeartbeats 800000 in
theorem l4Nums_any (v : Value) (ns : List Int) (s : Int) (w : World) (hv : RdI w v ns) (hn : ns.length ≤ 1048576) : Calls Try.prog 97 #[v, .int .i64 s] w fun e w' => ∃ v', e = .returned v' ∧ OwB w' w.heap.size w'.heap.size v' (numsF s ns) ∧ Below w.heap.size w w' := by
  obtain ⟨A, c, rfl⟩ := hv.slice
  have hc := hv.cap
  have Hv := Lib.hid hv
  clear hv
  generalize hl : ns.length = l at *
  have Hl := Lib.hid hl
  clear hl
  go_enter Try.func97, Try.ntmps97
  go_wp2
  go_loopw [5, 6] (fun u i w1 => ∃ j : Nat, j ≤ l ∧ i = .int .i64 j ∧ OwB w1 w.heap.size w1.heap.size u (numsF s (ns.take j)) ∧ Below w.heap.size w w1) (fun _ i _ => l - (intOf i).toNat)
  case atStart => exact ⟨0, by omega, rfl, OwB.lit w _ [] 0 _ rfl rfl (by decide) (Nat.le_refl _), (Below.refl _ _).alloc (Nat.le_refl _) _⟩
  case round =>
    obtain ⟨j, hj, rfl, ho, hb⟩ := hrel
    have Ho := Lib.hid ho
    have Hb := Lib.hid hb
    have hz := hb.size
    clear ho hb
    by_cases hlt : j < l
    · obtain ⟨ad, hk, rfl, hcell⟩ := (Hv.out.below Hb.out).at_ hlt
      have Hs := Lib.hid (numsF_succ (s := s) hk)
      have Hlen := Lib.hid (numsF_len s (ns.take j))
      have Hlen2 := Lib.hid (putF_len ns[j] s)
      go_wp2_with fail
      refine (specPut_any _ _ _).mono ?_
      rintro e w2 ⟨v2, rfl, o2, b2⟩
      have Ho := Lib.hid (Ho.out.below b2 (Nat.le_refl _))
      have O2 := Lib.hid o2.rd
      have hz2 := b2.size
      have Hb := Lib.hid (Hb.out.trans (b2.mono hz))
      clear o2 b2
      go_wp2_with (at_builtin; refine wpList_appB _ rfl (.tmp 14) (.tmp 20) rfl rfl rfl Ho.out O2.out (by have h1 := Hlen.out; have h2 := Hlen2.out; have h3 := Hl.out; rw [List.length_take] at h1; omega) (by omega) ?_; intro v' w' h1 h2 h3)
      rw [← Hs.out] at h1
      have H1 := Lib.hid h1
      clear h1
      have h4 := Hb.out.grown h3 (by omega) (fun k hk => Ho.out.lo_le k hk)
      go_wp2
      exact ⟨⟨j + 1, by omega, by go_num, H1.out, h4⟩, by simp [intOf]; omega⟩
    · have : j = l := by omega
      subst this
      have ho := Ho.out
      rw [List.take_of_length_le (by rw [Hl.out]; omega)] at ho
      replace Ho := Lib.hid ho
      clear ho
      go_wp2
      go_ret
      exact ⟨_, rfl, Ho.out, Hb.out⟩
set_option maxHeartbeats 2000000 in
theorem l5Fits_any (x : DAscCookie) (w : World) : Calls Try.prog 96 #[.agg #[.int .i64 x.xMe, .int .i64 x.xPeer, .int .i64 x.xTag, .int .i64 x.xPeerTag, .int .i64 x.xTsn, .int .i64 x.xPeerTsn, .int .i64 x.xStreams, .int .i64 x.xMade, .int .i64 x.xOldTag, .int .i64 x.xOldPeerTag, .int .i64 x.xMac]] w fun e w' => e = .returned (.bool (fitsC x)) ∧ Below w.heap.size w w' := by
  obtain ⟨me, pe, ta, pt, ts, ps, st, ma, ot, op, mc⟩ := x
  go_enter Try.func96, Try.ntmps96
  go_wp2_with (first | (go_at_call 124; refine (l4Short_any _ _).mono ?_; rintro e w' ⟨rfl, rfl⟩) | (go_at_call 162; refine (l4Long_any _ _).mono ?_; rintro e w' ⟨rfl, rfl⟩) | (go_at_call 85; refine (l1In_any _ _ _ _).mono ?_; rintro e w' ⟨rfl, rfl⟩))
  all_goals
    go_ret
    refine ⟨ret_bool ?_, ?_⟩
    · rw [Bool.eq_iff_iff]; simp only [fitsC, inB_iff, Bool.and_eq_true, decide_eq_true_eq, Bool.false_eq_true, false_iff] at *; omega
    repeat first | with_reducible exact Below.refl _ _ | with_reducible assumption | with_reducible refine Below.setCell ?_ (by simp <;> omega) _ | with_reducible refine Below.alloc ?_ (by simp <;> omega) _ | with_reducible refine Below.drew ?_
theorem OwIn.lit (w : World) (cs : Array Value) (xs : List Int) (n : Nat) (hcs : cs.toList = xs.map itv) (hn : xs.length = n) (hm : n ≤ maxLen) : OwIn (w.alloc (.cells cs 3)) [w.heap.size] (.slice (some ⟨w.heap.size, 0, none⟩) n n) xs := by
  have h := World.ownsRow_lit (base := 0) (e := 3) (size := 1) w cs n (Nat.zero_le _) hm (by rw [← Array.length_toList, hcs]; simpa using hn)
  rw [hcs] at h
  subst hn
  exact ⟨h, by simp [Value.ownBlock]⟩
theorem OwBy.lit0 (w : World) : OwBy (w.alloc (.cells #[] 5)) [w.heap.size] (.slice (some ⟨w.heap.size, 0, none⟩) 0 0) [] :=
  ⟨⟨by simp, .inr ⟨w.heap.size, 0, #[], rfl, Nat.zero_le _, heap_alloc_new w _, by simp, by unfold maxLen; omega, by simp, by simp⟩⟩, by simp [Value.ownBlock]⟩
theorem OwBy.nil (w : World) : OwBy w [] (.slice none 0 0) [] := ⟨⟨by simp, .inl ⟨rfl, rfl⟩⟩, by simp [Value.ownBlock]⟩
theorem OwB.by_ {w : World} {lo : Nat} {v : Value} {xs : List UInt8} (h : OwB w lo w.heap.size v xs) : OwBy w v.ownBlock.toList v xs ∧ Nw lo w.heap.size v.ownBlock.toList :=
  ⟨⟨row_mono h.1 (Nat.zero_le _), rfl⟩, own_nw (fun k hk => h.1.lt k hk)⟩
set_option maxHeartbeats 400000 in
theorem l5Fields_n (x : DAscCookie) (w : World) : Calls Try.prog 98 #[.agg #[.int .i64 x.xMe, .int .i64 x.xPeer, .int .i64 x.xTag, .int .i64 x.xPeerTag, .int .i64 x.xTsn, .int .i64 x.xPeerTsn, .int .i64 x.xStreams, .int .i64 x.xMade, .int .i64 x.xOldTag, .int .i64 x.xOldPeerTag, .int .i64 x.xMac]] w fun e w' => ∃ v f, e = .returned v ∧ OwIn w' f v (fieldsF x) ∧ Nw w.heap.size w'.heap.size f ∧ Below w.heap.size w w' := by
  go_enter Try.func98, Try.ntmps98
  go_wp2
  have h := OwIn.lit (w.alloc (.cells #[.int .i64 x.xMe, .int .i64 x.xPeer, .int .i64 x.xTag, .int .i64 x.xPeerTag, .int .i64 x.xTsn, .int .i64 x.xPeerTsn, .int .i64 x.xStreams, .int .i64 x.xMade, .int .i64 x.xOldTag, .int .i64 x.xOldPeerTag, .int .i64 x.xMac] 49)) #[.int .i64 x.xMe, .int .i64 x.xPeer, .int .i64 x.xTag, .int .i64 x.xPeerTag, .int .i64 x.xTsn, .int .i64 x.xPeerTsn, .int .i64 x.xStreams, .int .i64 x.xMade, .int .i64 x.xOldTag, .int .i64 x.xOldPeerTag] (fieldsF x) 10 rfl rfl (by decide)
  refine bodyPost_ret (v := .slice (some ⟨w.heap.size + 1, 0, none⟩) 10 10) (by simp [results, Try.results98, go_sem]) rfl ?_
  refine ⟨_, [w.heap.size + 1], rfl, by simpa using h, ⟨by simp, by simp⟩, ?_⟩
  repeat first | with_reducible exact Below.refl _ _ | with_reducible assumption | with_reducible refine Below.setCell ?_ (by simp <;> omega) _ | with_reducible refine Below.alloc ?_ (by simp <;> omega) _ | with_reducible refine Below.drew ?_
set_option maxRecDepth 100000 in
set_option maxHeartbeats 2000000 in
theorem specAscBake_n (s : Int) (x : DAscCookie) (w : World) : Calls Try.prog 34 #[.int .i64 s, .agg #[.int .i64 x.xMe, .int .i64 x.xPeer, .int .i64 x.xTag, .int .i64 x.xPeerTag, .int .i64 x.xTsn, .int .i64 x.xPeerTsn, .int .i64 x.xStreams, .int .i64 x.xMade, .int .i64 x.xOldTag, .int .i64 x.xOldPeerTag, .int .i64 x.xMac]] w fun e w' => ∃ v f, e = .returned v ∧ OwBy w' f v (bakeF s x) ∧ Nw w.heap.size w'.heap.size f ∧ Below w.heap.size w w' := by
  have HB := Lib.hid ((Below.refl w.heap.size w).alloc (Nat.le_refl _) (.cells #[.int .i64 x.xMe, .int .i64 x.xPeer, .int .i64 x.xTag, .int .i64 x.xPeerTag, .int .i64 x.xTsn, .int .i64 x.xPeerTsn, .int .i64 x.xStreams, .int .i64 x.xMade, .int .i64 x.xOldTag, .int .i64 x.xOldPeerTag, .int .i64 x.xMac] 49))
  have K := Lib.hid (Blk.new (w := w) (b := w.heap.size) #[.int .i64 x.xMe, .int .i64 x.xPeer, .int .i64 x.xTag, .int .i64 x.xPeerTag, .int .i64 x.xTsn, .int .i64 x.xPeerTsn, .int .i64 x.xStreams, .int .i64 x.xMade, .int .i64 x.xOldTag, .int .i64 x.xOldPeerTag, .int .i64 x.xMac] 49 rfl)
  have HM := Lib.hid (show bakeF s x = if fitsC x = true then numsF 4 (fieldsF x ++ [macF s x]) else [] from rfl)
  have Hlf := Lib.hid (show (fieldsF x).length = 10 from rfl)
  go_enter Try.func34, Try.ntmps34
  go_wp2_with fail
  refine (l5Fits_any x _).mono ?_
  rintro e w1 ⟨rfl, b1⟩
  replace K := Lib.hid (K.out.keep b1)
  replace HB := Lib.hid (HB.out.trans (b1.mono HB.out.size))
  clear b1
  rcases hfit : fitsC x with _ | _
  · have Hr := Lib.hid (show bakeF s x = [] by rw [HM.out, hfit]; rfl)
    clear hfit HM
    go_wp2
    go_ret
    refine ⟨_, [w1.heap.size], rfl, by rw [Hr.out]; exact OwBy.lit0 w1, ⟨by simp, by have := HB.out.size; simp; omega⟩, HB.out.alloc HB.out.size _⟩
  have Hr := Lib.hid (show bakeF s x = numsF 4 (fieldsF x ++ [macF s x]) by rw [HM.out, hfit]; rfl)
  clear hfit HM
  go_wp2_with fail
  generalize hmc : macF s x = mc at *
  have Hmc := Lib.hid hmc
  clear hmc
  refine wp_region_free 5 (fun y => Below w1.heap.size w1 y) (fun vals i v y f => match i with | 0 => v = .agg #[.int .i64 x.xMe, .int .i64 x.xPeer, .int .i64 x.xTag, .int .i64 x.xPeerTag, .int .i64 x.xTsn, .int .i64 x.xPeerTsn, .int .i64 x.xStreams, .int .i64 x.xMade, .int .i64 x.xOldTag, .int .i64 x.xOldPeerTag, .int .i64 x.xMac] ∧ f = [] | 1 => OwIn y f v (fieldsF x) | 2 => v = .int .i64 s ∧ f = [] | 3 => v = .agg #[.int .i64 x.xMe, .int .i64 x.xPeer, .int .i64 x.xTag, .int .i64 x.xPeerTag, .int .i64 x.xTsn, .int .i64 x.xPeerTsn, .int .i64 x.xStreams, .int .i64 x.xMade, .int .i64 x.xOldTag, .int .i64 x.xOldPeerTag, .int .i64 x.xMac] ∧ f = [] | 4 => v = .int .i64 mc ∧ f = [] | _ => False) (fun i => i) (by kernel_rfl) (by kernel_rfl) ?_ (fun _ _ _ _ _ _ _ _ _ h => h) (Below.refl _ _).drew ?_ ?_
  · intro _ i v y y' f h hb
    match i, h with
    | 0, h => exact h
    | 1, h => exact OwIn.below h hb
    | 2, h => exact h
    | 3, h => exact h
    | 4, h => exact h
  · intro vals
    simp only [List.take_succ_cons, List.take_zero, Steps]
    refine ⟨?_, ?_, ?_, ?_, ?_, trivial⟩
    · intro y fp0 hS hd
      try simp only [Act.put, List.setIfInBounds_toArray, List.set_cons_zero, List.set_cons_succ]
      have k0 := (K.out.keep hS).at (i := 0) rfl
      have k1 := (K.out.keep hS).at (i := 1) rfl
      have k2 := (K.out.keep hS).at (i := 2) rfl
      have k3 := (K.out.keep hS).at (i := 3) rfl
      have k4 := (K.out.keep hS).at (i := 4) rfl
      have k5 := (K.out.keep hS).at (i := 5) rfl
      have k6 := (K.out.keep hS).at (i := 6) rfl
      have k7 := (K.out.keep hS).at (i := 7) rfl
      have k8 := (K.out.keep hS).at (i := 8) rfl
      have k9 := (K.out.keep hS).at (i := 9) rfl
      have k10 := (K.out.keep hS).at (i := 10) rfl
      refine FreeUpon.pure (.agg #[.int .i64 x.xMe, .int .i64 x.xPeer, .int .i64 x.xTag, .int .i64 x.xPeerTag, .int .i64 x.xTsn, .int .i64 x.xPeerTsn, .int .i64 x.xStreams, .int .i64 x.xMade, .int .i64 x.xOldTag, .int .i64 x.xOldPeerTag, .int .i64 x.xMac]) ?_ ⟨rfl, rfl⟩ hS
      clear hS hd
      go_simp
    · intro y fp0 hS hd
      try simp only [Act.put, List.setIfInBounds_toArray, List.set_cons_zero, List.set_cons_succ]
      have hv0 := (hd { on := 0, ground := Ground.data } (by simp) (by kernel_rfl)).1.1
      refine FreeUpon.call (g := 98) (args := #[.agg #[.int .i64 x.xMe, .int .i64 x.xPeer, .int .i64 x.xTag, .int .i64 x.xPeerTag, .int .i64 x.xTsn, .int .i64 x.xPeerTsn, .int .i64 x.xStreams, .int .i64 x.xMade, .int .i64 x.xOldTag, .int .i64 x.xOldPeerTag, .int .i64 x.xMac]]) ?_ ((l5Fields_n x y).mono fun e y' ⟨v', f', he, h1, h2, h3⟩ => ⟨v', f', he, h1, h2, h3, hS.trans (h3.mono hS.size)⟩)
      simp only [hv0]
      go_simp
    · intro y fp0 hS hd
      try simp only [Act.put, List.setIfInBounds_toArray, List.set_cons_zero, List.set_cons_succ]
      refine FreeUpon.pure (.int .i64 s) ?_ ⟨rfl, rfl⟩ hS
      clear hS hd
      go_simp
    · intro y fp0 hS hd
      try simp only [Act.put, List.setIfInBounds_toArray, List.set_cons_zero, List.set_cons_succ]
      have k0 := (K.out.keep hS).at (i := 0) rfl
      have k1 := (K.out.keep hS).at (i := 1) rfl
      have k2 := (K.out.keep hS).at (i := 2) rfl
      have k3 := (K.out.keep hS).at (i := 3) rfl
      have k4 := (K.out.keep hS).at (i := 4) rfl
      have k5 := (K.out.keep hS).at (i := 5) rfl
      have k6 := (K.out.keep hS).at (i := 6) rfl
      have k7 := (K.out.keep hS).at (i := 7) rfl
      have k8 := (K.out.keep hS).at (i := 8) rfl
      have k9 := (K.out.keep hS).at (i := 9) rfl
      have k10 := (K.out.keep hS).at (i := 10) rfl
      refine FreeUpon.pure (.agg #[.int .i64 x.xMe, .int .i64 x.xPeer, .int .i64 x.xTag, .int .i64 x.xPeerTag, .int .i64 x.xTsn, .int .i64 x.xPeerTsn, .int .i64 x.xStreams, .int .i64 x.xMade, .int .i64 x.xOldTag, .int .i64 x.xOldPeerTag, .int .i64 x.xMac]) ?_ ⟨rfl, rfl⟩ hS
      clear hS hd
      go_simp
    · intro y fp0 hS hd
      try simp only [Act.put, List.setIfInBounds_toArray, List.set_cons_zero, List.set_cons_succ]
      have hv2 := (hd { on := 2, ground := Ground.data } (by simp) (by kernel_rfl)).1.1
      have hv3 := (hd { on := 3, ground := Ground.data } (by simp) (by kernel_rfl)).1.1
      refine FreeUpon.call (g := 99) (args := #[.int .i64 s, .agg #[.int .i64 x.xMe, .int .i64 x.xPeer, .int .i64 x.xTag, .int .i64 x.xPeerTag, .int .i64 x.xTsn, .int .i64 x.xPeerTsn, .int .i64 x.xStreams, .int .i64 x.xMade, .int .i64 x.xOldTag, .int .i64 x.xOldPeerTag, .int .i64 x.xMac]]) ?_ ((specAscMac_r s x y).mono fun e y' ⟨he, h3⟩ => ⟨_, [], he, ⟨by rw [Hmc.out], rfl⟩, Nw.nil _ _, h3, hS.trans (h3.mono hS.size)⟩)
      simp only [hv2, hv3]
      go_simp
  · intro vals fp y hS hb hf
    have e0 : vals 0 = .agg #[.int .i64 x.xMe, .int .i64 x.xPeer, .int .i64 x.xTag, .int .i64 x.xPeerTag, .int .i64 x.xTsn, .int .i64 x.xPeerTsn, .int .i64 x.xStreams, .int .i64 x.xMade, .int .i64 x.xOldTag, .int .i64 x.xOldPeerTag, .int .i64 x.xMac] := (hf.1 0 (by omega) rfl).1.1
    have o1 : OwIn y (fp 1) (vals 1) (fieldsF x) := (hf.1 1 (by omega) rfl).1
    have N1 := Lib.hid (hf.1 1 (by omega) rfl).2
    have e2 : vals 2 = .int .i64 s := (hf.1 2 (by omega) rfl).1.1
    have e3 : vals 3 = .agg #[.int .i64 x.xMe, .int .i64 x.xPeer, .int .i64 x.xTag, .int .i64 x.xPeerTag, .int .i64 x.xTsn, .int .i64 x.xPeerTsn, .int .i64 x.xStreams, .int .i64 x.xMade, .int .i64 x.xOldTag, .int .i64 x.xOldPeerTag, .int .i64 x.xMac] := (hf.1 3 (by omega) rfl).1.1
    have e4 : vals 4 = .int .i64 mc := (hf.1 4 (by omega) rfl).1.1
    obtain ⟨A1, c1, e1⟩ := o1.rd.slice
    rw [e1] at o1
    have O1 := Lib.hid (OwIn.below o1 ((Below.refl _ _).alloc (Nat.le_refl _) (.cells #[.int .i64 mc] 3)))
    have R1 := Lib.hid (Blk.rdI' mc (Blk.new (w := y) (b := y.heap.size) #[.int .i64 mc] 3 rfl))
    have W1 := Lib.hid HB.out.size
    replace HB := Lib.hid (HB.out.trans (hS.mono HB.out.size))
    have Y1 := Lib.hid hS.size
    clear hf hS hb o1
    simp only [List.take_succ_cons, List.take_zero, List.drop_succ_cons, List.drop_zero, putAll, Act.put, List.setIfInBounds_toArray, List.set_cons_zero, List.set_cons_succ, e0, e1, e2, e3, e4]
    clear e0 e1 e2 e3 e4
    go_wp2_with (at_builtin; refine wpList_appIn (lo := w1.heap.size) _ rfl (.tmp 10) (.tmp 14) rfl rfl rfl O1.out (N1.out.mono (Nat.le_refl _) (by simp)) R1.out (by have := Hlf.out; simp; omega) (by have := Y1.out; simp; omega) ?_; intro v' w' f' h1 h2 h3)
    have HB' := Lib.hid (show Below w.heap.size w w' from (HB.out.alloc HB.out.size _).trans (grown_below (v := .slice A1 (fieldsF x).length c1) h3 (by have := HB.out.size; simp; omega) (by rw [O1.out.own]; exact fun b hb => Nat.le_trans W1.out (N1.out.2 b hb).1)))
    have H1 := Lib.hid h1.rd
    clear h1 h2 h3
    go_wp2_with fail
    refine (l4Nums_any _ _ 4 _ H1.out (by have := Hlf.out; simp; omega)).mono ?_
    rintro e w3 ⟨v3, rfl, o3, b3⟩
    have HB3 := Lib.hid (HB'.out.trans (b3.mono HB'.out.size))
    have O3 := Lib.hid o3.by_
    clear o3
    go_wp2
    go_ret
    refine ⟨_, _, rfl, ?_, O3.out.2.mono HB'.out.size (Nat.le_refl _), HB3.out⟩
    rw [Hr.out]
    exact O3.out.1
end Go.Proofs.Ytbceikhmoblacaa
