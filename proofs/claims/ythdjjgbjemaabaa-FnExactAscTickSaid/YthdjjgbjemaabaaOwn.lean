/-
  Lists of structs in memory: what reads as such a list, what the call owns (by its blocks), what stays as it was. My own words; no function of the program is named.
-/
import Derived.Test.YthdjjgbjemaabaaMem
namespace Go.Proofs.Ythdjjgbjemaabaa
open Go.ChangeShapes Go.WideShapes Go.ChangeAt Go.RowKit
set_option linter.unusedVariables false

/-- But for the blocks bs what was there is as it was. -/
structure FrL (bs : List Nat) (w w' : World) : Prop where
  os : w'.os = w.os
  tape : w'.tape = w.tape
  output : w'.output = w.output
  size : w.heap.size ≤ w'.heap.size
  block : ∀ k, k < w.heap.size → k ∉ bs → w'.heap[k]? = w.heap[k]?
theorem FrL.refl (bs : List Nat) (w : World) : FrL bs w w := ⟨rfl, rfl, rfl, Nat.le_refl _, fun _ _ _ => rfl⟩
theorem FrL.trans {bs : List Nat} {a b c : World} (h : FrL bs a b) (k : FrL bs b c) : FrL bs a c :=
  ⟨k.os.trans h.os, k.tape.trans h.tape, k.output.trans h.output, Nat.le_trans h.size k.size, fun i hi ho => (k.block i (Nat.lt_of_lt_of_le hi h.size) ho).trans (h.block i hi ho)⟩
theorem FrL.mono {bs bs' : List Nat} {a b : World} (h : FrL bs a b) (hs : ∀ k ∈ bs, k ∈ bs') : FrL bs' a b :=
  ⟨h.os, h.tape, h.output, h.size, fun i hi ho => h.block i hi (fun hk => ho (hs i hk))⟩
theorem FrL.drewN {bs : List Nat} {a b : World} (h : FrL bs a b) (n : Nat) : FrL bs a (b.drewN n) := ⟨h.os, h.tape, h.output, h.size, h.block⟩
theorem FrL.of_below {bs : List Nat} {a b : World} (h : Below a.heap.size a b) : FrL bs a b := ⟨h.os, h.tape, h.output, h.size, fun i hi _ => h.block i hi⟩
theorem FrL.of_fr {g : Nat} {a b : World} (h : Fr g (g + 1) a b) : FrL [g] a b := ⟨h.os, h.tape, h.output, h.size, fun i hi ho => h.block i hi (by simp at ho; omega)⟩
theorem FrL.of_grown {g : Nat} {a b : World} (h : a.grownBy b (some g)) : FrL [g] a b := ⟨h.os, h.tape, h.output, h.size, fun i hi ho => h.block i hi (fun e => by injection e with e; simp [e] at ho)⟩
theorem FrL.below {bs : List Nat} {B : Nat} {a b : World} (h : FrL bs a b) (hB : ∀ k ∈ bs, B ≤ k) (hs : B ≤ a.heap.size) : Below B a b :=
  ⟨h.os, h.tape, h.output, h.size, fun i hi => h.block i (by omega) (fun hk => by have := hB i hk; omega)⟩
theorem FrL.nil_below {a b : World} (h : FrL [] a b) : Below a.heap.size a b := h.below (by simp) (Nat.le_refl _)

/-- The cells from an address on. -/
def CellsAt (w : World) (a : Addr) (cs : List Value) : Prop := ∀ i u, cs[i]? = some u → w.cell? (a.add i) = some u
theorem CellsAt.c0 {w : World} {a : Addr} {c : Value} {cs : List Value} (h : CellsAt w a (c :: cs)) : w.cell? a = some c := h 0 c rfl
theorem CellsAt.ci {w : World} {a : Addr} {cs : List Value} (h : CellsAt w a cs) (i : Nat) {u : Value} (hi : cs[i + 1]? = some u) : w.cell? ⟨a.block, a.off + (i + 1), none⟩ = some u := h (i + 1) u hi
theorem CellsAt.below {w w' : World} {a : Addr} {cs : List Value} (h : CellsAt w a cs) (hb : Below w.heap.size w w') : CellsAt w' a cs := fun i u hu =>
  (hb.cell (World.block_lt_of_cell? w _ (h i u hu))).trans (h i u hu)

/-- A slice whose elements, of m cells each, read as xs. -/
def RdS {α : Type} (m : Nat) (E : World → List Value → α → Prop) (w : World) (v : Value) (xs : List α) : Prop :=
  ∃ A c, v = .slice A xs.length c ∧ (xs.length ≤ c ∧ c ≤ maxLen) ∧ ∀ j x, xs[j]? = some x → ∃ ad cs, A = some ad ∧ cs.length = m ∧ CellsAt w (ad.add (j * m)) cs ∧ E w cs x
section
variable {α : Type} {m : Nat} {E : World → List Value → α → Prop} {w w' : World} {v : Value} {xs : List α}
theorem RdS.slice (h : RdS m E w v xs) : ∃ A c, v = .slice A xs.length c := by obtain ⟨A, c, hv, _⟩ := h; exact ⟨A, c, hv⟩
theorem RdS.len {A : Option Addr} {n c : Nat} (h : RdS m E w (.slice A n c) xs) : xs.length = n := by
  obtain ⟨_, _, hv, _⟩ := h; injection hv with _ h2 _; exact h2.symm
theorem RdS.cap {A : Option Addr} {n c : Nat} (h : RdS m E w (.slice A n c) xs) : n ≤ c ∧ c ≤ 9223372036854775807 := by
  obtain ⟨_, _, hv, hc, _⟩ := h; injection hv with _ h2 h3; subst h2 h3; exact hc
theorem RdS.at_ {A : Option Addr} {n c k : Nat} (h : RdS m E w (.slice A n c) xs) (hk : k < n) :
    ∃ ad cs, ∃ hk' : k < xs.length, A = some ad ∧ cs.length = m ∧ CellsAt w (ad.add (k * m)) cs ∧ E w cs xs[k] := by
  obtain ⟨A', c', hv, _, hc⟩ := h
  injection hv with h1 h2 h3
  subst h1 h2
  obtain ⟨ad, cs, he, hl, hcs, hE⟩ := hc k xs[k] (by simp [hk])
  exact ⟨ad, cs, hk, he, hl, hcs, hE⟩
theorem RdS.below (hE : ∀ cs x, E w cs x → E w' cs x) (h : RdS m E w v xs) (hb : Below w.heap.size w w') : RdS m E w' v xs := by
  obtain ⟨A, c, hv, h1, hc⟩ := h
  refine ⟨A, c, hv, h1, fun j x hx => ?_⟩
  obtain ⟨ad, cs, he, hl, hcs, hx⟩ := hc j x hx
  exact ⟨ad, cs, he, hl, hcs.below hb, hE _ _ hx⟩
theorem RdS.drewN {n : Nat} (hE : ∀ cs x, E w cs x → E (w.drewN n) cs x) (h : RdS m E w v xs) : RdS m E (w.drewN n) v xs := by
  obtain ⟨A, c, hv, h1, hc⟩ := h
  refine ⟨A, c, hv, h1, fun j x hx => ?_⟩
  obtain ⟨ad, cs, he, hl, hcs, hx⟩ := hc j x hx
  exact ⟨ad, cs, he, hl, hcs, hE _ _ hx⟩
theorem RdS.mono {F : World → List Value → α → Prop} (hE : ∀ cs x, x ∈ xs → E w cs x → F w cs x) (h : RdS m E w v xs) : RdS m F w v xs := by
  obtain ⟨A, c, hv, h1, hc⟩ := h
  refine ⟨A, c, hv, h1, fun j x hx => ?_⟩
  obtain ⟨ad, cs, he, hl, hcs, hx'⟩ := hc j x hx
  exact ⟨ad, cs, he, hl, hcs, hE _ _ (List.mem_of_getElem? hx) hx'⟩
end

/-- Some cells of a row, one behind the other, are written. -/
def putCells (w : World) (g p : Nat) : List Value → World
  | [] => w
  | c :: cs => putCells (w.setCell ⟨g, p, none⟩ c) g (p + 1) cs
def setMany (l : List Value) (p : Nat) : List Value → List Value
  | [] => l
  | c :: cs => setMany (l.set p c) (p + 1) cs
theorem setMany_mid (cs : List Value) : ∀ (pre old post : List Value) (p : Nat), pre.length = p → old.length = cs.length → setMany (pre ++ old ++ post) p cs = pre ++ cs ++ post := by
  induction cs with
  | nil => intro pre old post p _ h; have : old = [] := List.eq_nil_of_length_eq_zero h; subst this; rfl
  | cons c cs ih =>
    intro pre old post p hp ho
    match old, ho with
    | o :: old, ho =>
      simp only [setMany]
      have h1 : (pre ++ (o :: old) ++ post).set p c = (pre ++ [c]) ++ old ++ post := by
        subst hp
        rw [List.append_assoc, List.set_append_right _ _ (Nat.le_refl _), Nat.sub_self]
        simp
      rw [h1, ih (pre ++ [c]) old post (p + 1) (by simp [hp]) (by simpa using ho)]
      simp
theorem putCells_row {base g n cap size : Nat} {e : TypeId} (cs : List Value) : ∀ {w : World} {xs : List Value} (p : Nat), w.ownsRow base e size (.slice (some ⟨g, 0, none⟩) n cap) n xs →
    (putCells w g p cs).ownsRow base e size (.slice (some ⟨g, 0, none⟩) n cap) n (setMany xs p cs) ∧ FrL [g] w (putCells w g p cs) ∧ (putCells w g p cs).heap.size = w.heap.size := by
  induction cs with
  | nil => intro w xs p h; exact ⟨h, FrL.refl _ _, rfl⟩
  | cons c cs ih =>
    intro w xs p h
    obtain ⟨h1, h2⟩ := h.stored p c
    obtain ⟨h3, h4, h5⟩ := ih (p + 1) h1
    exact ⟨h3, (FrL.of_grown h2).trans h4, by simp only [putCells]; rw [h5]; simp [World.setCell]⟩

/-- The call owns v: a row of elements, of m cells each, that reads as xs; its own block and those of its elements are bs. -/
def OwL {α : Type} (e : TypeId) (m : Nat) (E : World → List Nat → List Value → α → Prop) (w : World) (bs : List Nat) (v : Value) (xs : List α) : Prop :=
  ∃ (cells : List Value) (fs : List (List Nat)), w.ownsRow 0 e m v xs.length cells ∧ fs.length = xs.length ∧ bs = v.ownBlock.toList ++ fs.flatten ∧
    ∀ j x f, xs[j]? = some x → fs[j]? = some f → E w f ((cells.drop (j * m)).take m) x
/-- What an element's word asks of memory lies in its blocks. -/
def Framed {α : Type} (E : World → List Nat → List Value → α → Prop) : Prop := ∀ w w' f cs x, E w f cs x → (∀ b ∈ f, w'.heap[b]? = w.heap[b]?) → E w' f cs x
/-- An element's blocks are there. -/
def Inside {α : Type} (E : World → List Nat → List Value → α → Prop) : Prop := ∀ w f cs x, E w f cs x → ∀ b ∈ f, b < w.heap.size
theorem ownsRow_block {w w' : World} {base size n : Nat} {e : TypeId} {v : Value} {xs : List Value} (h : w.ownsRow base e size v n xs) (hb : ∀ b ∈ v.ownBlock.toList, w'.heap[b]? = w.heap[b]?) : w'.ownsRow base e size v n xs := by
  refine ⟨h.1, ?_⟩
  rcases h.2 with hn | ⟨g, cap, cur, rfl, hg, hgg, rest⟩
  · exact .inl hn
  · exact .inr ⟨g, cap, cur, rfl, hg, by rw [hb g (by simp [Value.ownBlock])]; exact hgg, rest⟩
theorem ownsRow_inside {w : World} {base size n : Nat} {e : TypeId} {v : Value} {xs : List Value} (h : w.ownsRow base e size v n xs) : ∀ b ∈ v.ownBlock.toList, b < w.heap.size := fun b hb => (h.lt b (by simpa using hb)).2
theorem mem_flatten_at {fs : List (List Nat)} {f : List Nat} {j b : Nat} (h : fs[j]? = some f) (hb : b ∈ f) : b ∈ fs.flatten := List.mem_flatten.2 ⟨f, List.mem_of_getElem? h, hb⟩
section
variable {α : Type} {e : TypeId} {m : Nat} {E : World → List Nat → List Value → α → Prop} {w w' : World} {bs : List Nat} {v : Value} {xs : List α}
theorem OwL.framed (hE : Framed E) : Framed (fun w f cs (x : List α) => ∃ v, cs = [v] ∧ OwL e m E w f v x) := by
  rintro w w' f cs x ⟨v, rfl, cells, fs, hr, hl, rfl, hx⟩ hb
  refine ⟨v, rfl, cells, fs, ownsRow_block hr (fun b h => hb b (by simp [h])), hl, rfl, fun j x f h1 h2 => ?_⟩
  exact hE _ _ _ _ _ (hx j x f h1 h2) (fun b h => hb b (List.mem_append_right _ (mem_flatten_at h2 h)))
theorem OwL.keep (hE : Framed E) (h : OwL e m E w bs v xs) (hb : ∀ b ∈ bs, w'.heap[b]? = w.heap[b]?) : OwL e m E w' bs v xs := by
  obtain ⟨v', h1, h2⟩ := OwL.framed hE w w' bs [v] xs ⟨v, rfl, h⟩ hb
  injection h1 with h1; subst h1; exact h2
theorem OwL.inside (hE : Inside E) (h : OwL e m E w bs v xs) : ∀ b ∈ bs, b < w.heap.size := by
  obtain ⟨cells, fs, hr, hl, rfl, hx⟩ := h
  intro b hb
  rcases List.mem_append.1 hb with h | h
  · exact ownsRow_inside hr b h
  · obtain ⟨f, hf, hbf⟩ := List.mem_flatten.1 h
    obtain ⟨j, hj, rfl⟩ := List.mem_iff_getElem.1 hf
    exact hE _ _ _ _ (hx j _ _ (List.getElem?_eq_getElem (by omega)) (List.getElem?_eq_getElem hj)) b hbf
theorem OwL.frl (hE : Framed E) (hI : Inside E) (h : OwL e m E w bs v xs) {cs : List Nat} (hf : FrL cs w w') (hd : ∀ b ∈ bs, b ∉ cs) : OwL e m E w' bs v xs :=
  h.keep hE (fun b hb => hf.block b (h.inside hI b hb) (hd b hb))
theorem OwL.below (hE : Framed E) (hI : Inside E) (h : OwL e m E w bs v xs) (hb : Below w.heap.size w w') : OwL e m E w' bs v xs :=
  h.keep hE (fun b hb' => hb.block b (h.inside hI b hb'))
theorem OwL.len {A : Option Addr} {n c : Nat} (h : OwL e m E w bs (.slice A n c) xs) : xs.length = n := by
  obtain ⟨cells, fs, hr, _⟩ := h
  rcases hr.2 with ⟨hv, hn⟩ | ⟨g, cap, cur, hv, _⟩
  · injection hv with _ h2 _; omega
  · injection hv with _ h2 _; omega
theorem OwL.slice (h : OwL e m E w bs v xs) : ∃ A c, v = .slice A xs.length c := by
  obtain ⟨cells, fs, hr, _⟩ := h
  rcases hr.2 with ⟨rfl, hn⟩ | ⟨g, cap, cur, rfl, _⟩
  · exact ⟨none, 0, by rw [hn]⟩
  · exact ⟨_, cap, rfl⟩
theorem add_zero_blk (g j : Nat) : (⟨g, 0, none⟩ : Addr).add j = ⟨g, j, none⟩ := by unfold Addr.add; split <;> simp_all
theorem row_cellsAt {base n cap g j : Nat} {cells : List Value} (hr : w.ownsRow base e m (.slice (some ⟨g, 0, none⟩) n cap) n cells) : CellsAt w ((⟨g, 0, none⟩ : Addr).add (j * m)) ((cells.drop (j * m)).take m) := by
  intro i u hu
  rw [List.getElem?_take] at hu
  split at hu
  · rw [List.getElem?_drop] at hu
    rw [add_of_add]
    exact hr.cells (g := g) rfl _ _ hu
  · cases hu
theorem OwL.rd {F : World → List Value → α → Prop} (hF : ∀ f cs x, E w f cs x → F w cs x) (h : OwL e m E w bs v xs) : RdS m F w v xs := by
  obtain ⟨cells, fs, hr, hl, rfl, hx⟩ := h
  rcases hr.2 with ⟨rfl, hn⟩ | ⟨g, cap, cur, rfl, hb, hgg, hcap⟩
  · exact ⟨none, 0, by rw [hn], ⟨by omega, by decide⟩, fun j x hj => by
      have : xs = [] := List.eq_nil_of_length_eq_zero hn
      subst this; simp at hj⟩
  · refine ⟨some ⟨g, 0, none⟩, cap, rfl, ⟨hcap.1, hcap.2.1⟩, fun j x hj => ?_⟩
    have hjl : j < xs.length := (List.getElem?_eq_some_iff.1 hj).1
    have hE := hx j x (fs[j]'(by omega)) hj (List.getElem?_eq_getElem (by omega))
    refine ⟨_, _, rfl, ?_, row_cellsAt hr, hF _ _ _ hE⟩
    have h1 : (j + 1) * m ≤ xs.length * m := Nat.mul_le_mul_right _ hjl
    rw [Nat.succ_mul] at h1
    rw [List.length_take, List.length_drop, hr.1]
    omega
end

/-- A row that is being filled: the first i elements stand. -/
def Fill {α : Type} (e : TypeId) (m : Nat) (E : World → List Nat → List Value → α → Prop) (zs : List Value) (xs : List α) (g n i : Nat) (w : World) : Prop :=
  ∃ (cells : List Value) (fs : List (List Nat)), w.ownsRow 0 e m (.slice (some ⟨g, 0, none⟩) n n) n (cells ++ zs.drop (i * m)) ∧ cells.length = i * m ∧ fs.length = i ∧ fs.flatten.Nodup ∧ (∀ b ∈ fs.flatten, g < b) ∧
    ∀ j x f, xs[j]? = some x → fs[j]? = some f → E w f ((cells.drop (j * m)).take m) x
section
variable {α : Type} {e : TypeId} {m : Nat} {E : World → List Nat → List Value → α → Prop} {w w' : World} {zs : List Value} {xs : List α} {g n i : Nat}
theorem Fill.start (h : w.ownsRow 0 e m (.slice (some ⟨g, 0, none⟩) n n) n zs) : Fill e m E zs xs g n 0 w :=
  ⟨[], [], by simpa using h, by simp, rfl, by simp, by simp, by simp⟩
theorem Fill.lt (h : Fill e m E zs xs g n i w) : g < w.heap.size := by
  obtain ⟨cells, fs, hr, _⟩ := h
  exact (hr.lt g rfl).2
theorem Fill.cell (h : Fill e m E zs xs g n i w) (hb : Below w.heap.size w w') {p : Nat} (hp : p < n * m) : ∃ u, w'.cell? ⟨g, p, none⟩ = some u := by
  have hg := h.lt
  obtain ⟨cells, fs, hr, _⟩ := h
  rw [hb.cell (p := ⟨g, p, none⟩) hg, hr.cellAt p hp, List.getElem?_eq_getElem (by rw [hr.1]; exact hp)]
  exact ⟨_, rfl⟩
theorem Fill.frozen (h : Fill e m E zs xs g n i w) (hb : Below w.heap.size w w') (p : Nat) : w'.frozen? ⟨g, p, none⟩ = false := by
  have hg := h.lt
  obtain ⟨cells, fs, hr, _⟩ := h
  rw [hb.frozen (p := ⟨g, p, none⟩) hg, hr.frozenAt p]
/-- The next element comes out of new memory and is stored. -/
theorem Fill.step (hE : Framed E) (hI : Inside E) (h : Fill e m E zs xs g n i w) (hz : zs.length = n * m) (hi : i < n) (hb : Below w.heap.size w w') {f : List Nat} {cs : List Value} {x : α} (hx : xs[i]? = some x)
    (hcs : cs.length = m) (he : E w' f cs x) (hf : f.Nodup) (hfr : ∀ b ∈ f, w.heap.size ≤ b) : Fill e m E zs xs g n (i + 1) (putCells w' g (i * m) cs) ∧ FrL [g] w' (putCells w' g (i * m) cs) ∧ (putCells w' g (i * m) cs).heap.size = w'.heap.size := by
  have hg := h.lt
  obtain ⟨cells, fs, hr, hcl, hfl, hnd, hgt, hel⟩ := h
  have hin : ∀ b ∈ fs.flatten, b < w.heap.size := by
    intro b hbm
    obtain ⟨f', hf', hbf⟩ := List.mem_flatten.1 hbm
    obtain ⟨j, hj, rfl⟩ := List.mem_iff_getElem.1 hf'
    have hil := (List.getElem?_eq_some_iff.1 hx).1
    exact hI _ _ _ _ (hel j _ _ (List.getElem?_eq_getElem (by omega)) (List.getElem?_eq_getElem hj)) b hbf
  have hr' : w'.ownsRow 0 e m (.slice (some ⟨g, 0, none⟩) n n) n (cells ++ zs.drop (i * m)) := ownsRow_block hr (fun b hb' => by
    simp [Value.ownBlock] at hb'; subst hb'; exact hb.block _ hg)
  obtain ⟨h1, h2, h3⟩ := putCells_row cs (i * m) hr'
  have hm1 : (i + 1) * m ≤ n * m := Nat.mul_le_mul_right _ hi
  rw [Nat.succ_mul] at hm1
  have hsplit : cells ++ zs.drop (i * m) = cells ++ (zs.drop (i * m)).take m ++ zs.drop ((i + 1) * m) := by
    rw [List.append_assoc]; congr 1
    rw [Nat.succ_mul, ← List.drop_drop, List.take_append_drop]
  rw [hsplit, setMany_mid cs _ _ _ _ hcl (by rw [List.length_take, List.length_drop]; omega)] at h1
  refine ⟨⟨cells ++ cs, fs ++ [f], h1, by rw [List.length_append, hcl, hcs, Nat.succ_mul], by simp [hfl], ?_, ?_, ?_⟩, h2, h3⟩
  · rw [List.flatten_append, List.flatten_singleton, List.nodup_append]
    exact ⟨hnd, hf, fun a ha b hb' => by have := hin a ha; have := hfr b hb'; omega⟩
  · intro b hb'
    rw [List.flatten_append, List.flatten_singleton] at hb'
    rcases List.mem_append.1 hb' with h | h
    · exact hgt b h
    · have := hfr b h; omega
  · intro j y f' hy hf'
    have keep : ∀ f'' cs'' y', E w' f'' cs'' y' → (∀ b ∈ f'', b ≠ g) → (∀ b ∈ f'', b < w'.heap.size) → E (putCells w' g (i * m) cs) f'' cs'' y' := fun f'' cs'' y' hE' hne hlt =>
      hE _ _ _ _ _ hE' (fun b hb' => h2.block b (hlt b hb') (by simpa using hne b hb'))
    by_cases hji : j < i
    · have hfs : fs[j]? = some f' := by rw [List.getElem?_append_left (by omega)] at hf'; exact hf'
      have hold := hel j y f' hy hfs
      have hj1 : (j + 1) * m ≤ i * m := Nat.mul_le_mul_right _ hji
      rw [Nat.succ_mul] at hj1
      have hcells : ((cells ++ cs).drop (j * m)).take m = (cells.drop (j * m)).take m := by
        rw [List.drop_append_of_le_length (by omega), List.take_append_of_le_length (by rw [List.length_drop]; omega)]
      rw [hcells]
      have hmem : ∀ b ∈ f', b ∈ fs.flatten := fun b hb' => mem_flatten_at hfs hb'
      exact keep _ _ _ (hE _ _ _ _ _ hold (fun b hb' => hb.block b (hin b (hmem b hb')))) (fun b hb' => by have := hgt b (hmem b hb'); omega) (fun b hb' => Nat.lt_of_lt_of_le (hin b (hmem b hb')) hb.size)
    · have hjl : j < (fs ++ [f]).length := (List.getElem?_eq_some_iff.1 hf').1
      have : j = i := by simp [hfl] at hjl; omega
      subst this
      have hff : f' = f := by rw [List.getElem?_append_right (by omega), hfl, Nat.sub_self] at hf'; simpa using hf'.symm
      have hyy : y = x := by rw [hx] at hy; simpa using hy.symm
      subst hff hyy
      have hcells : ((cells ++ cs).drop (j * m)).take m = cs := by
        rw [← hcl, List.drop_left, List.take_of_length_le (by omega)]
      rw [hcells]
      exact keep _ _ _ he (fun b hb' => by have := hfr b hb'; omega) (hI _ _ _ _ he)
theorem Fill.done (h : Fill e m E zs xs g n n w) (hn : xs.length = n) (hz : zs.length = n * m) : ∃ bs, OwL e m E w bs (.slice (some ⟨g, 0, none⟩) n n) xs ∧ bs.Nodup ∧ ∀ b ∈ bs, g ≤ b := by
  obtain ⟨cells, fs, hr, hcl, hfl, hnd, hgt, hel⟩ := h
  refine ⟨g :: fs.flatten, ⟨cells, fs, ?_, by omega, by simp [Value.ownBlock], hel⟩, ?_, ?_⟩
  · rw [List.drop_of_length_le (by omega), List.append_nil] at hr
    rw [hn]; exact hr
  · exact List.nodup_cons.2 ⟨fun h => by have := hgt g h; omega, hnd⟩
  · intro b hb
    rcases List.mem_cons.1 hb with rfl | h
    · exact Nat.le_refl _
    · exact Nat.le_of_lt (hgt b h)
end

/-- One element of an owned row, to be turned; and the row again behind that. -/
theorem OwL.focus {α : Type} {e : TypeId} {m : Nat} {E : World → List Nat → List Value → α → Prop} {w : World} {bs : List Nat} {g n c j : Nat} {xs : List α} (hE : Framed E) (hI : Inside E)
    (h : OwL e m E w bs (.slice (some ⟨g, 0, none⟩) n c) xs) (hnd : bs.Nodup) (hj : j < n) : ∃ (f : List Nat) (cs pre post : List Value) (hjl : j < xs.length), E w f cs xs[j] ∧ w.ownsRow 0 e m (.slice (some ⟨g, 0, none⟩) n c) n (pre ++ cs ++ post) ∧
      pre.length = j * m ∧ cs.length = m ∧ g ∉ f ∧ f.Nodup ∧ (∀ b ∈ f, b ∈ bs) ∧ g ∈ bs ∧
      ∀ (w' : World) (cs' : List Value) (x' : α), w'.ownsRow 0 e m (.slice (some ⟨g, 0, none⟩) n c) n (pre ++ cs' ++ post) → cs'.length = m → FrL (g :: f) w w' → E w' f cs' x' → OwL e m E w' bs (.slice (some ⟨g, 0, none⟩) n c) (xs.set j x') := by
  have hlen := h.len
  have hins := h.inside hI
  obtain ⟨cells, fs, hr, hl, rfl, hx⟩ := h
  subst hlen
  have hjl : j < xs.length := by omega
  have hm1 : (j + 1) * m ≤ xs.length * m := Nat.mul_le_mul_right _ hjl
  rw [Nat.succ_mul] at hm1
  have hcl := hr.1
  have hsplit : cells = cells.take (j * m) ++ (cells.drop (j * m)).take m ++ cells.drop ((j + 1) * m) := by
    rw [List.append_assoc, Nat.succ_mul, ← List.drop_drop, List.take_append_drop, List.take_append_drop]
  have hfj : fs[j]? = some (fs[j]'(by omega)) := List.getElem?_eq_getElem (by omega)
  simp only [Value.ownBlock, Option.toList_some, List.cons_append, List.nil_append, List.nodup_cons] at hnd
  obtain ⟨hg, hnd⟩ := hnd
  have hmem : ∀ b ∈ fs[j]'(by omega), b ∈ fs.flatten := fun b hb => mem_flatten_at hfj hb
  have hnd' := List.pairwise_flatten.1 hnd
  refine ⟨fs[j]'(by omega), (cells.drop (j * m)).take m, cells.take (j * m), cells.drop ((j + 1) * m), hjl, hx j _ _ (List.getElem?_eq_getElem hjl) hfj, by rw [← hsplit]; exact hr, by rw [List.length_take]; omega, by rw [List.length_take, List.length_drop]; omega,
    fun hg' => hg (hmem g hg'), hnd'.1 _ (List.getElem_mem _), fun b hb => by simp [Value.ownBlock]; exact .inr (by simpa using hmem b hb), by simp [Value.ownBlock], ?_⟩
  intro w' cs' x' hr' hcs' hfr hE'
  refine ⟨_, fs, by rw [List.length_set]; exact hr', by rw [List.length_set]; exact hl, rfl, fun i y f hy hf => ?_⟩
  by_cases hij : i = j
  · subst hij
    have hff : f = fs[i]'(by omega) := by rw [hfj] at hf; simpa using hf.symm
    rw [List.getElem?_set_self hjl] at hy
    injection hy with hy
    subst hff hy
    have : ((cells.take (i * m) ++ cs' ++ cells.drop ((i + 1) * m)).drop (i * m)).take m = cs' := by
      rw [List.append_assoc, List.drop_append_of_le_length (by rw [List.length_take]; omega), List.drop_of_length_le (by rw [List.length_take]; omega), List.nil_append, List.take_append_of_le_length (by omega), List.take_of_length_le (by omega)]
    rw [this]; exact hE'
  · rw [List.getElem?_set_ne (fun h => hij h.symm)] at hy
    have hold := hx i y f hy hf
    have hil : i < xs.length := (List.getElem?_eq_some_iff.1 hy).1
    have hcells : ((cells.take (j * m) ++ cs' ++ cells.drop ((j + 1) * m)).drop (i * m)).take m = (cells.drop (i * m)).take m := by
      by_cases hlt : i < j
      · have h1 : (i + 1) * m ≤ j * m := Nat.mul_le_mul_right _ hlt
        rw [Nat.succ_mul] at h1
        rw [List.append_assoc, List.drop_append_of_le_length (by rw [List.length_take]; omega), List.take_append_of_le_length (by rw [List.length_drop, List.length_take]; omega), List.drop_take, List.take_take, Nat.min_eq_left (by omega)]
      · have h1 : (j + 1) * m ≤ i * m := Nat.mul_le_mul_right _ (by omega)
        have hpl : (cells.take (j * m) ++ cs').length = (j + 1) * m := by rw [List.length_append, List.length_take, hcs', Nat.succ_mul]; omega
        rw [List.drop_append, hpl, List.drop_of_length_le (by omega), List.nil_append, List.drop_drop, Nat.add_sub_cancel' h1]
    rw [hcells]
    refine hE _ _ _ _ _ hold (fun b hb => hfr.block b (hins b (by simp [Value.ownBlock]; exact .inr (by simpa using mem_flatten_at hf hb))) ?_)
    simp only [List.mem_cons, not_or]
    refine ⟨fun hbg => hg (by rw [← hbg]; exact mem_flatten_at hf hb), fun hbj => ?_⟩
    have hp := hnd'.2
    rw [List.pairwise_iff_getElem] at hp
    have hfi := (List.getElem?_eq_some_iff.1 hf).1
    have hfe := (List.getElem?_eq_some_iff.1 hf).2
    by_cases hlt : i < j
    · exact (hp i j hfi (by omega) hlt) b (by rw [hfe]; exact hb) b hbj rfl
    · exact (hp j i (by omega) hfi (by omega)) b hbj b (by rw [hfe]; exact hb) rfl

/-- Marks of a list, element by element. -/
def mkL {α : Type} (mk : Int → α → α) (sz : α → Nat) : Int → List α → List α
  | _, [] => []
  | k, x :: xs => mk k x :: mkL mk sz (k + sz x) xs
def szL {α : Type} (sz : α → Nat) : List α → Nat
  | [] => 0
  | x :: xs => sz x + szL sz xs
section
variable {α : Type} {mk : Int → α → α} {sz : α → Nat}
theorem mkL_len (k : Int) (xs : List α) : (mkL mk sz k xs).length = xs.length := by
  induction xs generalizing k with
  | nil => rfl
  | cons x xs ih => simp [mkL, ih]
theorem szL_append (xs ys : List α) : szL sz (xs ++ ys) = szL sz xs + szL sz ys := by
  induction xs with
  | nil => simp [szL]
  | cons x xs ih => simp [szL, ih]; omega
theorem mkL_append (k : Int) (xs ys : List α) : mkL mk sz k (xs ++ ys) = mkL mk sz k xs ++ mkL mk sz (k + szL sz xs) ys := by
  induction xs generalizing k with
  | nil => simp [mkL, szL]
  | cons x xs ih =>
    simp only [List.cons_append, mkL, szL]
    rw [ih (k + ↑(sz x)), show k + ↑(sz x) + ↑(szL sz xs) = k + ↑(sz x + szL sz xs) by omega]
theorem szL_take_succ {xs : List α} {j : Nat} (h : j < xs.length) : szL sz (xs.take (j + 1)) = szL sz (xs.take j) + sz xs[j] := by
  rw [List.take_succ_eq_append_getElem h, szL_append]; simp [szL]
theorem mkL_set {k : Int} {xs : List α} {j : Nat} (h : j < xs.length) : (mkL mk sz k (xs.take j) ++ xs.drop j).set j (mk (k + szL sz (xs.take j)) xs[j]) = mkL mk sz k (xs.take (j + 1)) ++ xs.drop (j + 1) := by
  rw [List.drop_eq_getElem_cons h, List.set_append_right _ _ (by rw [mkL_len, List.length_take]; omega), mkL_len, List.length_take, Nat.min_eq_left (by omega), Nat.sub_self, List.set_cons_zero, List.take_succ_eq_append_getElem h, mkL_append]
  simp [mkL]
theorem mkL_mid {k : Int} {xs : List α} {j : Nat} (h : j < xs.length) : (mkL mk sz k (xs.take j) ++ xs.drop j)[j]? = some xs[j] := by
  rw [List.getElem?_append_right (by rw [mkL_len, List.length_take]; omega), mkL_len, List.length_take, Nat.min_eq_left (by omega), Nat.sub_self]
  simp
theorem mkL_get {k : Int} {xs : List α} {j : Nat} (h : j < xs.length) : (mkL mk sz k xs)[j]? = some (mk (k + szL sz (xs.take j)) xs[j]) := by
  have h1 : mkL mk sz k xs = mkL mk sz k (xs.take j) ++ mkL mk sz (k + szL sz (xs.take j)) (xs.drop j) := by rw [← mkL_append, List.take_append_drop]
  rw [h1, List.getElem?_append_right (by rw [mkL_len, List.length_take]; omega), mkL_len, List.length_take, Nat.min_eq_left (by omega), Nat.sub_self, List.drop_eq_getElem_cons h]
  simp [mkL]
theorem szL_take_le {xs : List α} (j : Nat) : szL sz (xs.take j) ≤ szL sz xs := by
  have h := szL_append (sz := sz) (xs.take j) (xs.drop j)
  rw [List.take_append_drop] at h
  omega
end

end Go.Proofs.Ythdjjgbjemaabaa
