/-
  Words and the laws' helpers of AscCookie and of lists of it. (Written by wip/tools/gentype.py.)
-/
import Derived.Test.YtbceikhmoblacaaKin
namespace Go.Proofs.Ytbceikhmoblacaa
open Go.ChangeShapes Go.WideShapes Go.ChangeAt Go.RowKit
set_option linter.unusedVariables false
set_option linter.unusedSimpArgs false

structure DAscCookie where
  xMe : Int
  xPeer : Int
  xTag : Int
  xPeerTag : Int
  xTsn : Int
  xPeerTsn : Int
  xStreams : Int
  xMade : Int
  xOldTag : Int
  xOldPeerTag : Int
  xMac : Int
def FAscCookie (w : World) (cs : List Value) (x : DAscCookie) : Prop := cs = [.int .i64 x.xMe, .int .i64 x.xPeer, .int .i64 x.xTag, .int .i64 x.xPeerTag, .int .i64 x.xTsn, .int .i64 x.xPeerTsn, .int .i64 x.xStreams, .int .i64 x.xMade, .int .i64 x.xOldTag, .int .i64 x.xOldPeerTag, .int .i64 x.xMac]
def EAscCookie (w : World) (f : List Nat) (cs : List Value) (x : DAscCookie) : Prop := cs = [.int .i64 x.xMe, .int .i64 x.xPeer, .int .i64 x.xTag, .int .i64 x.xPeerTag, .int .i64 x.xTsn, .int .i64 x.xPeerTsn, .int .i64 x.xStreams, .int .i64 x.xMade, .int .i64 x.xOldTag, .int .i64 x.xOldPeerTag, .int .i64 x.xMac] ∧ f = []
theorem FAscCookie.below {w w' : World} {cs : List Value} {x : DAscCookie} (h : FAscCookie w cs x) (hb : Below w.heap.size w w') : FAscCookie w' cs x := by
  exact h
theorem EAscCookie.framed : Framed EAscCookie := by
  rintro w w' f cs x ⟨rfl, rfl⟩ hb
  exact ⟨rfl, rfl⟩
theorem EAscCookie.inside : Inside EAscCookie := by
  rintro w f cs x ⟨rfl, rfl⟩ b hb
  cases hb
theorem EAscCookie.rd {w : World} {f : List Nat} {cs : List Value} {x : DAscCookie} (h : EAscCookie w f cs x) : FAscCookie w cs x := by
  obtain ⟨rfl, rfl⟩ := h
  exact rfl
abbrev RdAscCookieS (w : World) (v : Value) (xs : List DAscCookie) : Prop := RdS 11 FAscCookie w v xs
def OwAscCookieS (w : World) (f : List Nat) (v : Value) (xs : List DAscCookie) : Prop := OwL 49 11 EAscCookie w f v xs
theorem RdAscCookieS.below {w w' : World} {v : Value} {xs : List DAscCookie} (h : RdAscCookieS w v xs) (hb : Below w.heap.size w w') : RdAscCookieS w' v xs := RdS.below (fun _ _ h => h.below hb) h hb
theorem RdAscCookieS.slice {w : World} {v : Value} {xs : List DAscCookie} (h : RdAscCookieS w v xs) : ∃ A c, v = .slice A xs.length c := RdS.slice h
theorem OwAscCookieS.keep {w w' : World} {f : List Nat} {v : Value} {xs : List DAscCookie} (h : OwAscCookieS w f v xs) (hb : ∀ b ∈ f, w'.heap[b]? = w.heap[b]?) : OwAscCookieS w' f v xs := OwL.keep EAscCookie.framed h hb
theorem OwAscCookieS.inside {w : World} {f : List Nat} {v : Value} {xs : List DAscCookie} (h : OwAscCookieS w f v xs) : ∀ b ∈ f, b < w.heap.size := OwL.inside EAscCookie.inside h
theorem OwAscCookieS.rd {w : World} {f : List Nat} {v : Value} {xs : List DAscCookie} (h : OwAscCookieS w f v xs) : RdAscCookieS w v xs := OwL.rd (fun _ _ _ h => h.rd) h

set_option maxRecDepth 100000 in
set_option maxHeartbeats 2000000 in
theorem toAscCookie_n (cs : List Value) (x : DAscCookie) (w : World) (h : FAscCookie w cs x) :
    Calls Try.prog 35 #[.agg cs.toArray] w fun e w' => ∃ cs' f, e = .returned (.agg cs'.toArray) ∧ EAscCookie w' f cs' x ∧ Nw w.heap.size w'.heap.size f ∧ Below w.heap.size w w' := by
  subst h
  go_enter Try.func35, Try.ntmps35
  go_wp2
  refine bodyPost_ret (v := .agg #[.int .i64 x.xMe, .int .i64 x.xPeer, .int .i64 x.xTag, .int .i64 x.xPeerTag, .int .i64 x.xTsn, .int .i64 x.xPeerTsn, .int .i64 x.xStreams, .int .i64 x.xMade, .int .i64 x.xOldTag, .int .i64 x.xOldPeerTag, .int .i64 x.xMac]) (by simp [results, Try.results35, go_sem]) rfl ⟨_, [], rfl, ⟨rfl, rfl⟩, Nw.nil _ _, ?_⟩
  repeat first | with_reducible exact Below.refl _ _ | with_reducible assumption | with_reducible refine Below.setCell ?_ (by simp <;> omega) _ | with_reducible refine Below.alloc ?_ (by simp <;> omega) _ | with_reducible refine Below.drew ?_

set_option maxHeartbeats 2000000 in
theorem eqAscCookie_s (cs ds : List Value) (x : DAscCookie) (w : World) (h : FAscCookie w cs x) (k : FAscCookie w ds x) :
    Calls Try.prog 51 #[.agg cs.toArray, .agg ds.toArray] w fun e w' => e = .returned (.bool true) ∧ Below w.heap.size w w' := by
  subst h k
  go_enter Try.func51, Try.ntmps51
  go_wp2
  go_ret
  refine ⟨rfl, ?_⟩
  repeat first | with_reducible exact Below.refl _ _ | with_reducible assumption | with_reducible refine Below.setCell ?_ (by simp <;> omega) _ | with_reducible refine Below.alloc ?_ (by simp <;> omega) _ | with_reducible refine Below.drew ?_

theorem cells_AscCookie : Try.prog.cellsOf 47 = 11 := by kernel_rfl
set_option maxRecDepth 100000 in
theorem read_AscCookie {H : Type} {enc : TypeId × Value → H} {w : World} {base : Nat} {spare : Nat → Bool} {held : Bool} (n : Nat) (cs : List Value) (y : DataW H × List MemPlace) (hcs : cs.length = 11)
    (h : DataW.trod enc Try.prog w base spare held n 47 cs = some y) : ∃ x : DAscCookie, FAscCookie w cs x := by
  obtain ⟨ys, n', _, _, _, hxl, hg⟩ := DataW.trod_struct Try.underlying47 h
  match cs, hcs with
  | [c0, c1, c2, c3, c4, c5, c6, c7, c8, c9, c10], _ =>
    match ys, hxl with
    | [y0, y1, y2, y3, y4, y5, y6, y7, y8, y9, y10], _ =>
      have h0 : DataW.trod enc Try.prog w base spare held n' 3 (([c0, c1, c2, c3, c4, c5, c6, c7, c8, c9, c10].drop 0).take (Try.prog.cellsOf 3)) = some y0 := hg 0 _ rfl
      have h1 : DataW.trod enc Try.prog w base spare held n' 3 (([c0, c1, c2, c3, c4, c5, c6, c7, c8, c9, c10].drop 1).take (Try.prog.cellsOf 3)) = some y1 := hg 1 _ rfl
      have h2 : DataW.trod enc Try.prog w base spare held n' 3 (([c0, c1, c2, c3, c4, c5, c6, c7, c8, c9, c10].drop 2).take (Try.prog.cellsOf 3)) = some y2 := hg 2 _ rfl
      have h3 : DataW.trod enc Try.prog w base spare held n' 3 (([c0, c1, c2, c3, c4, c5, c6, c7, c8, c9, c10].drop 3).take (Try.prog.cellsOf 3)) = some y3 := hg 3 _ rfl
      have h4 : DataW.trod enc Try.prog w base spare held n' 3 (([c0, c1, c2, c3, c4, c5, c6, c7, c8, c9, c10].drop 4).take (Try.prog.cellsOf 3)) = some y4 := hg 4 _ rfl
      have h5 : DataW.trod enc Try.prog w base spare held n' 3 (([c0, c1, c2, c3, c4, c5, c6, c7, c8, c9, c10].drop 5).take (Try.prog.cellsOf 3)) = some y5 := hg 5 _ rfl
      have h6 : DataW.trod enc Try.prog w base spare held n' 3 (([c0, c1, c2, c3, c4, c5, c6, c7, c8, c9, c10].drop 6).take (Try.prog.cellsOf 3)) = some y6 := hg 6 _ rfl
      have h7 : DataW.trod enc Try.prog w base spare held n' 3 (([c0, c1, c2, c3, c4, c5, c6, c7, c8, c9, c10].drop 7).take (Try.prog.cellsOf 3)) = some y7 := hg 7 _ rfl
      have h8 : DataW.trod enc Try.prog w base spare held n' 3 (([c0, c1, c2, c3, c4, c5, c6, c7, c8, c9, c10].drop 8).take (Try.prog.cellsOf 3)) = some y8 := hg 8 _ rfl
      have h9 : DataW.trod enc Try.prog w base spare held n' 3 (([c0, c1, c2, c3, c4, c5, c6, c7, c8, c9, c10].drop 9).take (Try.prog.cellsOf 3)) = some y9 := hg 9 _ rfl
      have h10 : DataW.trod enc Try.prog w base spare held n' 3 (([c0, c1, c2, c3, c4, c5, c6, c7, c8, c9, c10].drop 10).take (Try.prog.cellsOf 3)) = some y10 := hg 10 _ rfl
      simp only [cellsInt, List.drop_zero, List.drop_succ_cons, List.take_succ_cons, List.take_zero] at h0 h1 h2 h3 h4 h5 h6 h7 h8 h9 h10
      obtain ⟨a0, rfl⟩ := intCell h0
      obtain ⟨a1, rfl⟩ := intCell h1
      obtain ⟨a2, rfl⟩ := intCell h2
      obtain ⟨a3, rfl⟩ := intCell h3
      obtain ⟨a4, rfl⟩ := intCell h4
      obtain ⟨a5, rfl⟩ := intCell h5
      obtain ⟨a6, rfl⟩ := intCell h6
      obtain ⟨a7, rfl⟩ := intCell h7
      obtain ⟨a8, rfl⟩ := intCell h8
      obtain ⟨a9, rfl⟩ := intCell h9
      obtain ⟨a10, rfl⟩ := intCell h10
      exact ⟨⟨a0, a1, a2, a3, a4, a5, a6, a7, a8, a9, a10⟩, rfl⟩
end Go.Proofs.Ytbceikhmoblacaa
