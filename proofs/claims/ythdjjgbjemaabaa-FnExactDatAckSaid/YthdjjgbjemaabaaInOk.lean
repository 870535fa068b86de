/-
  Is a receiving side ok? The numbers of it, the bits of what was seen, and the small functions of both programs.
-/
import Derived.Test.YthdjjgbjemaabaaOutOk
import Derived.Test.YthdjjgbjemaabaaTyDatIn
namespace Go.Proofs.Ythdjjgbjemaabaa
open Go.ChangeShapes Go.WideShapes Go.ChangeAt Go.RowKit
set_option linter.unusedVariables false
set_option linter.unusedSimpArgs false

def posF (cum t : Int) : Int := gapF (addF cum (-60) 32) t 32
def placeF (cum t : Int) : Int := gapF (addF cum (-59) 32) t 32
def lastOf (a cum : Int) (ts : List Int) (j : Nat) : Int := if j = 0 then a else posF cum (ts.getD (j - 1) 0)
def seenOk (x : DDatIn) (j : Nat) (t : Int) : Bool := inB t 0 4294967295 && (decide (lastOf 61 x.xCum x.xSeen j < posF x.xCum t) && decide (posF x.xCum t ≤ 76))
def haveOk (x : DDatIn) (j : Nat) (p : DDatPiece) : Bool := pieceOk p x.xStreams && (decide (lastOf 0 x.xCum (x.xHave.map (·.xTsn)) j < posF x.xCum p.xTsn) && (decide (posF x.xCum p.xTsn ≤ 60) || decide (p.xTsn ∈ x.xSeen)))
noncomputable def inOk (x : DDatIn) : Bool := ssnsOk x.xStreams x.xSsns && (inB x.xCum 0 4294967295 && (decide (x.xSeen.length ≤ 16) && (decide (x.xHave.length ≤ 24) && (allI (seenOk x) x.xSeen && allI (haveOk x) x.xHave))))

section numbers
variable {cum t : Int}
theorem isB_long (h : inB t 0 4294967295 = true) : isB t 32 = true := by
  have h := inB_iff.1 h
  exact isB_iff.2 ⟨h.1, by rw [topOf32]; omega⟩
theorem addF_long (n : Int) (h : inB cum 0 4294967295 = true) : addF cum n 32 = (cum + n) % 4294967296 ∧ isB (addF cum n 32) 32 = true := by
  have h2 : addF cum n 32 = (cum + n) % 4294967296 := by simp [addF, isB_long h, topOf32]
  exact ⟨h2, by rw [h2]; exact isB_iff.2 ⟨by omega, by rw [topOf32]; omega⟩⟩
theorem pos_long (hc : inB cum 0 4294967295 = true) (ht : inB t 0 4294967295 = true) : posF cum t = (t - cum + 60) % 4294967296 := by
  have h := addF_long (-60) hc
  rw [posF, gapF_yes h.2 (isB_long ht), h.1, topOf32]
  omega
theorem place_long (hc : inB cum 0 4294967295 = true) (ht : inB t 0 4294967295 = true) : placeF cum t = (t - cum + 59) % 4294967296 := by
  have h := addF_long (-59) hc
  rw [placeF, gapF_yes h.2 (isB_long ht), h.1, topOf32]
  omega
theorem far_long (hc : inB cum 0 4294967295 = true) (ht : inB t 0 4294967295 = true) : gapF cum t 32 = (t - cum) % 4294967296 := by
  rw [gapF_yes (isB_long hc) (isB_long ht), topOf32]
theorem pos_lo : 0 ≤ posF cum t := gapF_lo _ _ _
/-- A number that was seen: so far ahead, or at such a place. -/
theorem seen_far (hc : inB cum 0 4294967295 = true) (ht : inB t 0 4294967295 = true) (a : Int) (ha : 1 ≤ a) : inB (gapF cum t 32) (a + 1) 16 = (decide (a + 60 < posF cum t) && decide (posF cum t ≤ 76)) := by
  rw [far_long hc ht, pos_long hc ht]
  have h1 := inB_iff.1 hc
  have h2 := inB_iff.1 ht
  rw [Bool.eq_iff_iff, inB_iff]
  simp only [Bool.and_eq_true, decide_eq_true_eq]
  omega
theorem far_of_pos (hc : inB cum 0 4294967295 = true) (ht : inB t 0 4294967295 = true) (h : 61 ≤ posF cum t) : gapF cum t 32 = posF cum t - 60 := by
  rw [far_long hc ht, pos_long hc ht] at *
  have h1 := inB_iff.1 hc
  have h2 := inB_iff.1 ht
  omega
theorem far_inj {u : Int} (hc : inB cum 0 4294967295 = true) (ht : inB t 0 4294967295 = true) (hu : inB u 0 4294967295 = true) (h : gapF cum t 32 = gapF cum u 32) : t = u := by
  rw [far_long hc ht, far_long hc hu] at h
  have h1 := inB_iff.1 hc
  have h2 := inB_iff.1 ht
  have h3 := inB_iff.1 hu
  omega
end numbers

section bits
noncomputable def seenBits (cum : Int) (ts : List Int) : BitVec 32 := ts.foldl (fun s t => s ||| BitVec.twoPow 32 (gapF cum t 32).toNat) 0#32
theorem seenBits_snoc (cum : Int) (ts : List Int) (t : Int) : seenBits cum (ts ++ [t]) = seenBits cum ts ||| BitVec.twoPow 32 (gapF cum t 32).toNat := by simp [seenBits]
theorem foldBits_get (cum : Int) (k : Nat) : ∀ (ts : List Int) (s : BitVec 32), (ts.foldl (fun s t => s ||| BitVec.twoPow 32 (gapF cum t 32).toNat) s).getLsbD k = (s.getLsbD k || ts.any fun t => decide ((gapF cum t 32).toNat < 32) && decide ((gapF cum t 32).toNat = k))
  | [], s => by simp
  | t :: ts, s => by rw [List.foldl_cons, foldBits_get cum k ts, BitVec.getLsbD_or, BitVec.getLsbD_twoPow, List.any_cons, Bool.or_assoc]
theorem seenBits_get (cum : Int) (ts : List Int) (k : Nat) : (seenBits cum ts).getLsbD k = ts.any fun t => decide ((gapF cum t 32).toNat < 32) && decide ((gapF cum t 32).toNat = k) := by
  rw [seenBits, foldBits_get]; simp
/-- A bit is set just if the number was seen. -/
theorem seenBits_has {cum t : Int} {ts : List Int} (hc : inB cum 0 4294967295 = true) (ht : inB t 0 4294967295 = true) (hts : ∀ u ∈ ts, inB u 0 4294967295 = true ∧ gapF cum u 32 ≤ 16) : (seenBits cum ts).getLsbD (gapF cum t 32).toNat = decide (t ∈ ts) := by
  rw [seenBits_get, Bool.eq_iff_iff, List.any_eq_true, decide_eq_true_eq]
  constructor
  · rintro ⟨u, hu, h⟩
    simp only [Bool.and_eq_true, decide_eq_true_eq] at h
    have h0 := gapF_lo cum t 32
    have h1 := gapF_lo cum u 32
    have := far_inj hc (hts u hu).1 ht (by omega)
    rwa [← this]
  · intro h
    have h1 := gapF_lo cum t 32
    have h2 := (hts t h).2
    exact ⟨t, h, by simp; omega⟩
def bvI (b : BitVec 32) : Int := (b.toNat : Int)
theorem bvI_wrap (c : BitVec 32) : IntKind.u32.wrap (c.toNat : Int) = bvI c := by
  have := c.isLt
  show ((c.toNat : Int)) % 4294967296 = _
  exact Int.emod_eq_of_lt (by omega) (by omega)
theorem bvI_of (c : BitVec 32) : BitVec.ofInt 32 (bvI c) = c := by simp [bvI]
theorem bits_or32 (a b : BitVec 32) : bits .or .u32 (bvI a) (bvI b) = bvI (a ||| b) := by
  show IntKind.u32.wrap ((BitVec.ofInt 32 (bvI a) ||| BitVec.ofInt 32 (bvI b)).toNat : Int) = _
  rw [bvI_of, bvI_of, bvI_wrap]
theorem bits_and32 (a b : BitVec 32) : bits .and .u32 (bvI a) (bvI b) = bvI (a &&& b) := by
  show IntKind.u32.wrap ((BitVec.ofInt 32 (bvI a) &&& BitVec.ofInt 32 (bvI b)).toNat : Int) = _
  rw [bvI_of, bvI_of, bvI_wrap]
theorem bvI_has (s : BitVec 32) (n : Nat) : (bvI (s &&& BitVec.twoPow 32 n) != 0) = s.getLsbD n := by
  rcases Nat.lt_or_ge n 32 with h | h
  · rw [BitVec.and_twoPow]
    split
    · rename_i hs
      rw [hs, bvI, BitVec.toNat_twoPow_of_lt h]
      have : (0 : Nat) < 2 ^ n := Nat.two_pow_pos n
      simp only [bne_iff_ne, ne_eq]
      omega
    · rename_i hs
      simp only [Bool.not_eq_true] at hs
      rw [hs]; rfl
  · have h1 : BitVec.twoPow 32 n = 0#32 := by
      apply BitVec.eq_of_getLsbD_eq
      intro i hi
      rw [BitVec.getLsbD_twoPow]
      simp; omega
    rw [h1, BitVec.getLsbD_of_ge s n h]
    simp [bvI]
end bits
end Go.Proofs.Ythdjjgbjemaabaa
