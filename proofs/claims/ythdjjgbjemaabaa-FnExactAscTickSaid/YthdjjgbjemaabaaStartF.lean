/-
  What AscStart and AscClose answer, as plain functions. (Written by wip/tools/genstart.py.)
-/
import Derived.Test.YthdjjgbjemaabaaLineF
import Derived.Test.YthdjjgbjemaabaaAscOkI
namespace Go.Proofs.Ythdjjgbjemaabaa
open Go.ChangeShapes Go.WideShapes Go.ChangeAt Go.RowKit
set_option linter.unusedVariables false
set_option linter.unusedSimpArgs false

def startR (x : DAscEnd) (tag tsn : Int) : DAscEnd × List DFrmPacket × Int :=
  if ascOk x = true then
    if (tagA x.xLast tag && inB tsn 0 4294967295) = true then
      if x.xState = 0 then
        ({ x with xState := 1, xTag := tag, xTsn := tsn, xLeft := 3 }, frameF { x with xState := 1, xTag := tag, xTsn := tsn, xLeft := 3 } 0 (firstC { x with xState := 1, xTag := tag, xTsn := tsn, xLeft := 3 }), 0)
      else (x, [], 3)
    else (x, [], 2)
  else (zeroEnd, [], 1)
def startE (x : DAscEnd) (tag tsn : Int) : DAscEnd := (startR x tag tsn).1
def startP (x : DAscEnd) (tag tsn : Int) : List DFrmPacket := (startR x tag tsn).2.1
def startK (x : DAscEnd) (tag tsn : Int) : Int := (startR x tag tsn).2.2
theorem start_1 {x : DAscEnd} {tag tsn : Int} (h : ascOk x = false) : startE x tag tsn = zeroEnd ∧ startP x tag tsn = [] ∧ startK x tag tsn = 1 := by simp [startE, startP, startK, startR, h]
theorem start_2 {x : DAscEnd} {tag tsn : Int} (h : ascOk x = true) (h2 : (tagA x.xLast tag && inB tsn 0 4294967295) = false) : startE x tag tsn = x ∧ startP x tag tsn = [] ∧ startK x tag tsn = 2 := by simp [startE, startP, startK, startR, h, h2]
theorem start_3 {x : DAscEnd} {tag tsn : Int} (h : ascOk x = true) (h2 : (tagA x.xLast tag && inB tsn 0 4294967295) = true) (h3 : ¬ x.xState = 0) : startE x tag tsn = x ∧ startP x tag tsn = [] ∧ startK x tag tsn = 3 := by simp [startE, startP, startK, startR, h, h2, h3]
theorem start_0 {x : DAscEnd} {tag tsn : Int} (h : ascOk x = true) (h2 : (tagA x.xLast tag && inB tsn 0 4294967295) = true) (h3 : x.xState = 0) : startE x tag tsn = { x with xState := 1, xTag := tag, xTsn := tsn, xLeft := 3 } ∧ startP x tag tsn = frameF { x with xState := 1, xTag := tag, xTsn := tsn, xLeft := 3 } 0 (firstC { x with xState := 1, xTag := tag, xTsn := tsn, xLeft := 3 }) ∧ startK x tag tsn = 0 := by simp [startE, startP, startK, startR, h, h2, h3]
def shutE (x : DAscEnd) (at_ : Int) : DAscEnd := { x with xState := 4, xPeerTsn := at_, xLeft := 3 }
def closeR (x : DAscEnd) (at_ : Int) (hard : Bool) : DAscEnd × List DFrmPacket × Int :=
  if ascOk x = true then
    if inB at_ 0 4294967295 = true then
      if x.xState = 3 then
        if hard = true then (bareF x, frameF x x.xPeerTag abortC, 0)
        else (shutE x at_, frameF (shutE x at_) x.xPeerTag (shutC at_), 0)
      else (x, [], 3)
    else (x, [], 2)
  else (zeroEnd, [], 1)
def closeE (x : DAscEnd) (at_ : Int) (hard : Bool) : DAscEnd := (closeR x at_ hard).1
def closeP (x : DAscEnd) (at_ : Int) (hard : Bool) : List DFrmPacket := (closeR x at_ hard).2.1
def closeK (x : DAscEnd) (at_ : Int) (hard : Bool) : Int := (closeR x at_ hard).2.2
theorem close_1 {x : DAscEnd} {at_ : Int} {hard : Bool} (h : ascOk x = false) : closeE x at_ hard = zeroEnd ∧ closeP x at_ hard = [] ∧ closeK x at_ hard = 1 := by simp [closeE, closeP, closeK, closeR, h]
theorem close_2 {x : DAscEnd} {at_ : Int} {hard : Bool} (h : ascOk x = true) (h2 : inB at_ 0 4294967295 = false) : closeE x at_ hard = x ∧ closeP x at_ hard = [] ∧ closeK x at_ hard = 2 := by simp [closeE, closeP, closeK, closeR, h, h2]
theorem close_3 {x : DAscEnd} {at_ : Int} {hard : Bool} (h : ascOk x = true) (h2 : inB at_ 0 4294967295 = true) (h3 : ¬ x.xState = 3) : closeE x at_ hard = x ∧ closeP x at_ hard = [] ∧ closeK x at_ hard = 3 := by simp [closeE, closeP, closeK, closeR, h, h2, h3]
theorem close_h {x : DAscEnd} {at_ : Int} {hard : Bool} (h : ascOk x = true) (h2 : inB at_ 0 4294967295 = true) (h3 : x.xState = 3) (hh : hard = true) : closeE x at_ hard = bareF x ∧ closeP x at_ hard = frameF x x.xPeerTag abortC ∧ closeK x at_ hard = 0 := by subst hh; simp [closeE, closeP, closeK, closeR, h, h2, h3]
theorem close_s {x : DAscEnd} {at_ : Int} {hard : Bool} (h : ascOk x = true) (h2 : inB at_ 0 4294967295 = true) (h3 : x.xState = 3) (hh : hard = false) : closeE x at_ hard = shutE x at_ ∧ closeP x at_ hard = frameF (shutE x at_) x.xPeerTag (shutC at_) ∧ closeK x at_ hard = 0 := by subst hh; simp [closeE, closeP, closeK, closeR, h, h2, h3]
theorem startE_cookie (x : DAscEnd) (tag tsn : Int) : (startE x tag tsn).xCookie.length ≤ x.xCookie.length := by
  unfold startE startR; repeat' split
  all_goals simp [zeroEnd]
theorem closeE_cookie (x : DAscEnd) (at_ : Int) (hard : Bool) : (closeE x at_ hard).xCookie.length ≤ x.xCookie.length := by
  unfold closeE closeR; repeat' split
  all_goals simp [zeroEnd, bareF, shutE]
theorem frame_z (x : DAscEnd) (tag : Int) (c : DFrmChunk) (h : zFrmChunk c = 0) : zL zFrmPacket (frameF x tag c) = 2 := by
  simp [frameF, zL, szL, zFrmPacket, h]
theorem startP_z (x : DAscEnd) (tag tsn : Int) : zL zFrmPacket (startP x tag tsn) ≤ 2 := by
  unfold startP startR; repeat' split
  all_goals first | (simp [zL, szL]; done) | (rw [frame_z _ _ _ (by rfl)]; decide)
theorem closeP_z (x : DAscEnd) (at_ : Int) (hard : Bool) : zL zFrmPacket (closeP x at_ hard) ≤ 2 := by
  unfold closeP closeR; repeat' split
  all_goals first | (simp [zL, szL]; done) | (rw [frame_z _ _ _ (by rfl)]; decide)
theorem start_bd (x : DAscEnd) (tag tsn : Int) (h : zAscEnd x ≤ 1048576) : zAscEnd (startE x tag tsn) ≤ 1048576 ∧ zL zFrmPacket (startP x tag tsn) ≤ 1048576 := by
  have h1 := startE_cookie x tag tsn; have h2 := startP_z x tag tsn; unfold zAscEnd at *; exact ⟨by omega, by omega⟩
theorem close_bd (x : DAscEnd) (at_ : Int) (hard : Bool) (h : zAscEnd x ≤ 1048576) : zAscEnd (closeE x at_ hard) ≤ 1048576 ∧ zL zFrmPacket (closeP x at_ hard) ≤ 1048576 := by
  have h1 := closeE_cookie x at_ hard; have h2 := closeP_z x at_ hard; unfold zAscEnd at *; exact ⟨by omega, by omega⟩

/-- What AscStart and AscClose come to: an end, what it says, a code. -/
def LinePost (w : World) (E : DAscEnd) (Q : List DFrmPacket) (k : Int) (e : Ending) (w' : World) : Prop := ∃ cs' v' f1 f2, e = .returned (.tuple #[.agg cs'.toArray, v', .int .i64 k]) ∧ EAscEnd w' f1 cs' E ∧ OwFrmPacketS w' f2 v' Q ∧ Nw w.heap.size w'.heap.size (f1 ++ f2) ∧ Below w.heap.size w w'
end Go.Proofs.Ythdjjgbjemaabaa
