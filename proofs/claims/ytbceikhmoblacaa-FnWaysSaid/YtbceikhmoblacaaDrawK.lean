/-
  The draws of keys, and of a choice: whatever the code, they answer keys that can be read, and turn nothing that was there but the reader.
-/
import Derived.Test.YtbceikhmoblacaaRowZ
import Derived.Test.YtbceikhmoblacaaTyKeyRow
namespace Go.Proofs.Ytbceikhmoblacaa
open Go.ChangeShapes Go.WideShapes Go.ChangeAt Go.RowKit Go.Maps
set_option linter.unusedVariables false
set_option linter.unusedSimpArgs false

/-- A reader of a code that lies, with its code, ahead of block B. -/
def Rdk (B : Nat) (w : World) (g : Nat) (xs : List UInt8) (p : Nat) : Prop :=
  ∃ v, w.heap[g]? = some (.cells #[v, .int .i64 p] 198 (0, 0)) ∧ RdB w v xs ∧ xs.length ≤ 2000 ∧ g < B ∧ ∀ ad n c, v = .slice (some ad) n c → 0 < n → ad.block < B
theorem Rdk.rdr {B : Nat} {w : World} {g : Nat} {xs : List UInt8} {p : Nat} (h : Rdk B w g xs p) : Rdr w g xs p := by
  obtain ⟨v, h1, h2, h3, _⟩ := h; exact ⟨v, h1, h2, h3⟩
theorem Rdk.of {w : World} {g : Nat} {xs : List UInt8} {p B : Nat} (h : Rdr w g xs p) (hB : w.heap.size ≤ B) : Rdk B w g xs p := by
  have hlt := h.lt
  obtain ⟨v, h1, h2, h3⟩ := h
  refine ⟨v, h1, h2, h3, by omega, fun ad n c hv hn => ?_⟩
  subst hv
  obtain ⟨ad', _, he, hc⟩ := h2.at_ (k := 0) hn
  injection he with he
  subst he
  have h4 : (ad.add 0).block < w.heap.size := World.block_lt_of_cell? w _ hc
  have h5 : (ad.add 0).block = ad.block := by unfold Addr.add; split <;> rfl
  omega
theorem Rdk.fr {B : Nat} {w w' : World} {g : Nat} {xs : List UInt8} {p lo hi : Nat} (h : Rdk B w g xs p) (hf : Fr lo hi w w') (hlo : B ≤ lo) : Rdk B w' g xs p := by
  have hlt := h.rdr.lt
  obtain ⟨v, h1, h2, h3, h4, h5⟩ := h
  refine ⟨v, by rw [hf.block g hlt (by omega)]; exact h1, ?_, h3, h4, h5⟩
  obtain ⟨A, c, rfl, hc, hx⟩ := h2
  refine ⟨A, c, rfl, hc, fun j x hj => ?_⟩
  obtain ⟨ad, rfl, hcell⟩ := hx j x hj
  refine ⟨ad, rfl, ?_⟩
  have hb := h5 ad _ c rfl (by have := (List.getElem?_eq_some_iff.1 hj).1; omega)
  have h6 : (ad.add j).block = ad.block := by unfold Addr.add; split <;> rfl
  rw [World.cell?_of_block (hf.block (ad.add j).block (World.block_lt_of_cell? w _ hcell) (by omega))]
  exact hcell
theorem Rdk.alloc {B : Nat} {w : World} {g : Nat} {xs : List UInt8} {p : Nat} (h : Rdk B w g xs p) (o : Obj) : Rdk B (w.alloc o) g xs p := by
  obtain ⟨v, h1, h2, h3, h4, h5⟩ := h
  exact ⟨v, by rw [Below.heap_alloc w o g (Array.getElem?_eq_some_iff.1 h1).1]; exact h1, h2.alloc o, h3, h4, h5⟩
theorem Rdk.drewN {B : Nat} {w : World} {g : Nat} {xs : List UInt8} {p : Nat} (h : Rdk B w g xs p) (n : Nat) : Rdk B (w.drewN n) g xs p := h
theorem Rdk.lt {B : Nat} {w : World} {g : Nat} {xs : List UInt8} {p : Nat} (h : Rdk B w g xs p) : g < B := by obtain ⟨v, h1, h2, h3, h4, h5⟩ := h; exact h4
/-- What a drawing of one number leaves; nothing is made. -/
def DrewK (P : Int → Prop) (B : Nat) (w : World) (g : Nat) (xs : List UInt8) (p c : Nat) (e : Ending) (w' : World) : Prop :=
  ∃ (x : Int) (q : Nat), P x ∧ e = .returned (.int .i64 x) ∧ q ≤ p + c ∧ Rdk B w' g xs q ∧ Fr g (g + 1) w w' ∧ w'.heap.size = w.heap.size
theorem pick_k (g p B : Nat) (n : Int) (xs : List UInt8) (w : World) (hr : Rdk B w g xs p) (hp : p ≤ 1099511627776) (hn : 1 ≤ n ∧ n ≤ 4294967296) :
    Calls Try.prog 92 #[.pointer (some ⟨g, 0, none⟩), .int .i64 n] w (DrewK (fun x => 0 ≤ x ∧ x < n) B w g xs p 1) := by
  have h := pick_any g p n.toNat xs w hr.rdr hp (by omega)
  rw [Int.toNat_of_nonneg (by omega)] at h
  refine h.mono ?_
  rintro e w' ⟨x, hx, he, d, hw⟩
  subst hw
  refine ⟨x, p + 1, by omega, he, by omega, ?_, (Fr.setCell _ _ (by simp)).drewN d, by show (w.setCell _ _).heap.size = _; simp [World.setCell]⟩
  obtain ⟨v, h1, h2, h3, h4, h5⟩ := hr
  refine Rdk.drewN ⟨v, ?_, h2.setInt (by rw [cell_of_row w g 1 _ _ _ h1]; rfl) _, h3, h4, h5⟩ d
  rw [heap_setCell_same w g 1 _ _ _ h1]
  rfl
theorem Fr.later {lo hi lo' hi' : Nat} {a b c : World} (h : Fr lo hi a b) (k : Fr lo' hi' b c) (hl : a.heap.size ≤ lo') : Fr lo hi a c :=
  ⟨k.os.trans h.os, k.tape.trans h.tape, k.output.trans h.output, Nat.le_trans h.size k.size, fun i hi1 ho => (k.block i (Nat.lt_of_lt_of_le hi1 h.size) (.inl (by omega))).trans (h.block i hi1 ho)⟩
def isI (_ : Nat) (u : Value) : Prop := ∃ x : Int, u = .int .i64 x
/-- Keys that a draw has made. -/
abbrev OwK (w : World) (lo : Nat) (v : Value) (n : Nat) : Prop := OwZ isI 41 4 w lo v n
theorem OwK.read {w : World} {lo n : Nat} {v : Value} (h : OwK w lo v n) : ∃ xs : List DKeyRow, xs.length = n ∧ RdKeyRowS w v xs := by
  refine OwZ.rd (F := FKeyRow) h (by omega) (fun cs hc hk => ?_)
  match cs, hc with
  | [c0, c1, c2, c3], _ =>
    obtain ⟨x0, rfl⟩ := hk 0 c0 rfl
    obtain ⟨x1, rfl⟩ := hk 1 c1 rfl
    obtain ⟨x2, rfl⟩ := hk 2 c2 rfl
    obtain ⟨x3, rfl⟩ := hk 3 c3 rfl
    exact ⟨⟨x0, x1, x2, x3⟩, rfl⟩
theorem elemKeyRow : Elem Try.prog 35 41 4 := by
  have h := info_KeyRow
  have hb' := infob_KeyRow
  generalize hP : Try.prog.info? 41 = oi at *
  obtain ⟨i, rfl, hzz⟩ := Option.map_eq_some_iff.1 h
  simp only [Prod.mk.injEq] at hzz
  exact ⟨i, _, Try.underlying35, hP, hzz.1, hzz.2, of_decide_eq_true hb', rfl, by omega⟩
theorem kinds4 {a b c d : Int} : ∀ p u, (#[Value.int .i64 a, .int .i64 b, .int .i64 c, .int .i64 d] : Array Value).toList[p]? = some u → isI (p % 4) u := by
  intro p u hu
  rcases p with _ | _ | _ | _ | p
  all_goals simp at hu
  all_goals (subst hu; exact ⟨_, rfl⟩)
set_option maxHeartbeats 1000000 in
theorem l33Keys_any (g p B : Nat) (xs : List UInt8) (w : World) (hr : Rdk B w g xs p) (hp : p + 8 ≤ 1099511627776) (hB : B ≤ w.heap.size) :
    Calls Try.prog 159 #[.pointer (some ⟨g, 0, none⟩)] w fun e w' => ∃ v n q, e = .returned v ∧ n ≤ 3 ∧ OwK w' w.heap.size v n ∧ q ≤ p + 7 ∧ Rdk B w' g xs q ∧ Fr g (g + 1) w w' := by
  have hg := hr.lt
  go_enter Try.func159, Try.ntmps159
  go_wp2_with fail
  refine (pick_k g p B 3 xs _ (hr.alloc _) (by omega) (by omega)).mono ?_
  rintro e w1 ⟨m, q1, hm, rfl, hq1, hr1, hf1, hs1⟩
  have O1 := Lib.hid ((OwZ.lit0 (kd := isI) (e := 41) (m := 4) (Nat.le_refl w.heap.size)).fr hf1 (by omega))
  have F1 := Lib.hid (((Fr.refl g (g + 1) w).alloc _).trans hf1)
  have R1 := Lib.hid hr1
  clear hr hr1 hf1 hs1
  go_wp2
  go_loopw [3, 4] (fun u n w2 => ∃ (j : Nat) (i : Int) (q : Nat), n = .int .i64 i ∧ 0 ≤ i ∧ (j : Int) + i = 1 + m ∧ OwK w2 w.heap.size u j ∧ q ≤ q1 + 2 * j ∧ Rdk B w2 g xs q ∧ Fr g (g + 1) w w2) (fun _ n _ => (intOf n).toNat)
  case atStart => exact ⟨0, 1 + m, q1, rfl, by omega, by omega, O1.out, by omega, R1.out, F1.out⟩
  case round =>
    clear O1 F1 R1
    obtain ⟨j, i, q, rfl, hi0, hji, ho, hq, hr2, hf2⟩ := hrel
    obtain ⟨A, c, rfl⟩ := id ho.slice
    have HO := Lib.hid ho
    have HR := Lib.hid hr2
    have HF := Lib.hid hf2
    have HSz := Lib.hid hf2.size
    clear ho hr2 hf2
    rcases Int.lt_or_le 0 i with hlt | hge
    · go_wp2_with fail
      refine (pick_k g q B 2 xs _ HR.out (by omega) (by omega)).mono ?_
      rintro e w3 ⟨a, q3, ha, rfl, hq3, hr3, hf3, hs3⟩
      replace HO := Lib.hid (HO.out.fr hf3 (by omega))
      replace HF := Lib.hid (HF.out.trans hf3)
      replace HR := Lib.hid hr3
      replace HSz := Lib.hid (show w.heap.size ≤ w3.heap.size by have := HSz.out; omega)
      clear hr3 hf3 hs3
      go_wp2_with fail
      refine (pick_k g q3 B 3 xs _ HR.out (by omega) (by omega)).mono ?_
      rintro e w4 ⟨b, q4, hb, rfl, hq4, hr4, hf4, hs4⟩
      replace HO := Lib.hid (HO.out.fr hf4 (by omega))
      replace HF := Lib.hid (HF.out.trans hf4)
      replace HR := Lib.hid hr4
      replace HSz := Lib.hid (show w.heap.size ≤ w4.heap.size by have := HSz.out; omega)
      clear hr4 hf4 hs4
      go_wp2_with (at_builtin; go_loud (refine wpList_pushZ1 elemKeyRow w4 _ _ rfl (.tmp 18) (.tmp 34) rfl rfl rfl HO.out (by have := HSz.out; omega) rfl kinds4 (by simp [Value.oneCell']) (by omega) ?_); intro v' w5 h1 h2)
      have H1 := Lib.hid h1
      have H2 := Lib.hid h2
      clear h1 h2
      go_wp2
      exact ⟨⟨j + 1, i - 1, q4, by go_num, by omega, by omega, H1.out, by omega, HR.out.fr H2.out hB, HF.out.later H2.out (Nat.le_refl _)⟩, by simp [intOf]; omega⟩
    · go_wp2
      go_loopw [6] (fun i w3 => ∃ k : Nat, i = .int .i64 ((k + 1 : Nat) : Int) ∧ k ≤ 3 ∧ OwK w3 w.heap.size (.slice A j c) j ∧ Rdk B w3 g xs q ∧ Fr g (g + 1) w w3) (fun i _ => j + 1 - (intOf i).toNat)
      case atStart => exact ⟨0, rfl, by omega, HO.out, HR.out, HF.out⟩
      case round =>
        clear HO HR HF HSz
        obtain ⟨k, rfl, hk3, ho, hr3, hf3⟩ := hrel
        have HO := Lib.hid ho
        have HR := Lib.hid hr3
        have HF := Lib.hid hf3
        clear hr3 hf3
        by_cases hlt : k + 1 < j
        · obtain ⟨gb, rfl, hgb, hgl⟩ := ho.form (by omega)
          obtain ⟨u1, c1, hu1⟩ := ho.cellAt (p := (k + 1) * 4) (by omega)
          obtain ⟨u0, c0, hu0⟩ := ho.cellAt (p := k * 4) (by omega)
          obtain ⟨x1, rfl⟩ := hu1
          obtain ⟨x0, rfl⟩ := hu0
          have f1 := ho.frozenAt ((k + 1) * 4)
          clear ho
          have hj : (k : Int) ≤ 3 := by omega
          have hjj : (k : Int) + 1 < (j : Int) := by omega
          have hjk : (k : Int) < (j : Int) := by omega
          go_wp2_with fail
          by_cases hle : x1 ≤ x0
          · go_quiet (fail)
            go_wp2
            obtain ⟨h1, h2⟩ := OwZ.store (p := (k + 1) * 4) (u := .int .i64 (wrap64 (x0 + 1))) (show OwK (wr.drewN nq) w.heap.size (.slice (some ⟨gb, 0, none⟩) j c) j from HO.out) ⟨_, rfl⟩
            exact ⟨⟨k + 1, by go_num, by omega, h1, (show Rdk B (wr.drewN nq) g xs q from HR.out).fr h2 hB, Fr.later (show Fr g (g + 1) w (wr.drewN nq) from HF.out.drewN nq) h2 (Nat.le_refl _)⟩, by simp [intOf]; omega⟩
          · go_quiet (fail)
            go_wp2
            exact ⟨⟨k + 1, by go_num, by omega, HO.out, HR.out, HF.out.drewN nq⟩, by simp [intOf]; omega⟩
        · clear ho
          go_wp2
          go_ret
          exact ⟨_, j, q, rfl, by omega, HO.out, by omega, HR.out, HF.out⟩
theorem kindsL (zs : List Int) {m : Nat} {cs : Array Value} (h : cs.toList = zs.map itv) : ∀ p u, cs.toList[p]? = some u → isI (p % m) u := by
  intro p u hu
  rw [h, List.getElem?_map] at hu
  obtain ⟨x, _, rfl⟩ := Option.map_eq_some_iff.1 hu
  exact ⟨x, rfl⟩
set_option maxRecDepth 100000 in
set_option maxHeartbeats 4000000 in
theorem l33SpoilKeys_any (g p B B0 n : Nat) (v : Value) (xs : List UInt8) (w : World) (hr : Rdk B w g xs p) (hv : OwK w B0 v n) (hn : n ≤ 3) (hp : p + 8 ≤ 1099511627776) (hB : B ≤ w.heap.size) :
    Calls Try.prog 160 #[.pointer (some ⟨g, 0, none⟩), v] w fun e w' => ∃ v' n' q, e = .returned v' ∧ n' ≤ 6 ∧ OwK w' w.heap.size v' n' ∧ q ≤ p + 7 ∧ Rdk B w' g xs q ∧ Fr g (g + 1) w w' := by
  have hg := hr.lt
  have HV := Lib.hid hv
  have HR := Lib.hid hr
  clear hr hv
  rcases Nat.eq_zero_or_pos n with h0 | h0
  · subst h0
    go_enter Try.func160, Try.ntmps160
    go_wp2_with (first
      | (at_builtin; refine wpList_copyZ elemKeyRow w rfl (.tmp 7) (.tmp 8) rfl rfl rfl HV.out (fun p u h => by obtain ⟨x, rfl⟩ := h; rfl) (by omega) ?_; intro A c w1 o1 f1; have r1 := HR.out.fr f1 hB; have F1 : Fr g (g + 1) w w1 := ⟨f1.os, f1.tape, f1.output, f1.size, fun i hi _ => f1.block i hi (.inl hi)⟩; have S1 := Lib.hid f1.size; clear f1)
      | (at_builtin; refine wpList_pushZ1 elemKeyRow w1 _ _ rfl (.tmp 18) (.tmp 22) rfl rfl rfl o1 S1.out rfl (kindsL [5, 500, 500, 1, 6, 600, 999, 2, 9, 501, 501, 3] rfl) (by simp [Value.oneCell']) (by omega) ?_; intro v' w2 o2 f2; have r2 := r1.fr f2 hB; replace f2 := F1.later f2 (Nat.le_refl _)))
    have O2 := Lib.hid o2
    have R2 := Lib.hid r2
    have F2 := Lib.hid f2
    clear o2 r2 f2
    go_ret
    exact ⟨_, 0 + 3, p, rfl, by omega, O2.out, by omega, R2.out, F2.out⟩
  have hz : ((n : Int) == 0) = false := by rw [beq_eq_false_iff_ne]; omega
  go_enter Try.func160, Try.ntmps160
  go_wp2_with (at_builtin; refine wpList_copyZ elemKeyRow w rfl (.tmp 7) (.tmp 8) rfl rfl rfl HV.out (fun p u h => by obtain ⟨x, rfl⟩ := h; rfl) (by omega) ?_; intro A c w1 o1 f1; replace HR := Lib.hid (HR.out.fr f1 hB); have HO := Lib.hid o1; have HF := Lib.hid (show Fr g (g + 1) w w1 from ⟨f1.os, f1.tape, f1.output, f1.size, fun i hi _ => f1.block i hi (.inl hi)⟩); have HS := Lib.hid f1.size; clear o1 f1 HV)
  refine (pick_k g p B 5 xs _ HR.out (by omega) (by omega)).mono ?_
  rintro e w2 ⟨y, q2, hy, rfl, hq2, hr2, hf2, hs2⟩
  replace HO := Lib.hid (HO.out.fr hf2 (by omega))
  replace HR := Lib.hid hr2
  replace HF := Lib.hid (HF.out.trans hf2)
  replace HS := Lib.hid (show w.heap.size ≤ w2.heap.size by have := HS.out; omega)
  clear hr2 hf2 hs2
  by_cases hy0 : y = 0
  · subst hy0
    go_wp2_with (at_builtin; refine wpList_pushZ1 elemKeyRow w2 _ _ rfl (.tmp 18) (.tmp 22) rfl rfl rfl HO.out HS.out rfl (kindsL [5, 500, 500, 1, 6, 600, 999, 2, 9, 501, 501, 3] rfl) (by simp [Value.oneCell']) (by omega) ?_; intro v' w3 o3 f3; have r3 := HR.out.fr f3 hB; replace f3 := HF.out.later f3 (Nat.le_refl _))
    have O3 := Lib.hid o3
    have R3 := Lib.hid r3
    have F3 := Lib.hid f3
    clear o3 r3 f3
    go_wp2
    go_ret
    exact ⟨_, n + 3, q2, rfl, by omega, O3.out, by omega, R3.out, F3.out⟩
  have hy1 : (y == 0) = false := by simp [hy0]
  go_wp2_with fail
  refine (pick_k g q2 B n xs _ HR.out (by omega) (by omega)).mono ?_
  rintro e w3 ⟨y3, q3, hy3, rfl, hq3, hr3, hf3, hs3⟩
  obtain ⟨k, rfl⟩ := Int.eq_ofNat_of_zero_le hy3.1
  have hk : k < n := by omega
  replace HO := Lib.hid (HO.out.fr hf3 (by omega))
  replace HR := Lib.hid hr3
  replace HF := Lib.hid (HF.out.trans hf3)
  replace HS := Lib.hid (show w.heap.size ≤ w3.heap.size by have := HS.out; omega)
  clear hr3 hf3 hs3
  go_wp2_with fail
  refine (pick_k g q3 B 4 xs _ HR.out (by omega) (by omega)).mono ?_
  rintro e w4 ⟨y4, q4, hy4, rfl, hq4, hr4, hf4, hs4⟩
  replace HO := Lib.hid (HO.out.fr hf4 (by omega))
  replace HR := Lib.hid hr4
  replace HF := Lib.hid (HF.out.trans hf4)
  replace HS := Lib.hid (show w.heap.size ≤ w4.heap.size by have := HS.out; omega)
  clear hr4 hf4 hs4
  have hc4 : y4 = 0 ∨ y4 = 1 ∨ y4 = 2 ∨ y4 = 3 := by omega
  clear hy4
  have ho := HO.out
  obtain ⟨gb, rfl, hgb, hgl⟩ := ho.form (by omega)
  clear ho
  rcases hc4 with rfl | rfl | rfl | rfl
  · go_wp2_with fail
    refine (pick_k g q4 B 4 xs _ (HR.out.alloc _) (by omega) (by omega)).mono ?_
    rintro e w5 ⟨z, q5, hz5, rfl, hq5, hr5, hf5, hs5⟩
    obtain ⟨m, rfl⟩ := Int.eq_ofNat_of_zero_le hz5.1
    have hm : m < 4 := by omega
    have hct := tab_at [0, 1, 9, 10] _ rfl hf5 (.inr (by have := HS.out; omega)) hm
    have ho5 := (HO.out.alloc (.cells #[.int .i64 0, .int .i64 1, .int .i64 9, .int .i64 10] 3)).fr hf5 (by omega)
    obtain ⟨u5, c5, _⟩ := ho5.cellAt (p := k * 4) (by omega)
    have z5 := ho5.frozenAt (k * 4)
    generalize tv [0, 1, 9, 10] m = val at *
    obtain ⟨h1, h2⟩ := OwZ.store (p := k * 4) (u := .int .i64 val) ho5 ⟨_, rfl⟩
    have H1 := Lib.hid h1
    have H2 := Lib.hid h2
    have HF5 := Lib.hid ((HF.out.alloc _).trans hf5)
    have HR5 := Lib.hid hr5
    clear h1 h2 ho5 hf5 hr5 hs5
    have hkn : (k : Int) < (n : Int) := by omega
    go_wp2
    go_ret
    exact ⟨_, n, q5, rfl, by omega, H1.out, by omega, HR5.out.fr H2.out hB, HF5.out.later H2.out (Nat.le_refl _)⟩
  · go_wp2_with fail
    refine (pick_k g q4 B 4 xs _ (HR.out.alloc _) (by omega) (by omega)).mono ?_
    rintro e w5 ⟨z, q5, hz5, rfl, hq5, hr5, hf5, hs5⟩
    obtain ⟨m, rfl⟩ := Int.eq_ofNat_of_zero_le hz5.1
    have hm : m < 4 := by omega
    have hct := tab_at [-1, 0, 50, 150] _ rfl hf5 (.inr (by have := HS.out; omega)) hm
    have ho5 := (HO.out.alloc (.cells #[.int .i64 (-1), .int .i64 0, .int .i64 50, .int .i64 150] 3)).fr hf5 (by omega)
    obtain ⟨u5, c5, _⟩ := ho5.cellAt (p := k * 4 + 1) (by omega)
    have z5 := ho5.frozenAt (k * 4 + 1)
    generalize tv [-1, 0, 50, 150] m = val at *
    obtain ⟨h1, h2⟩ := OwZ.store (p := k * 4 + 1) (u := .int .i64 val) ho5 ⟨_, rfl⟩
    have H1 := Lib.hid h1
    have H2 := Lib.hid h2
    have HF5 := Lib.hid ((HF.out.alloc _).trans hf5)
    have HR5 := Lib.hid hr5
    clear h1 h2 ho5 hf5 hr5 hs5
    have hkn : (k : Int) < (n : Int) := by omega
    go_wp2
    go_ret
    exact ⟨_, n, q5, rfl, by omega, H1.out, by omega, HR5.out.fr H2.out hB, HF5.out.later H2.out (Nat.le_refl _)⟩
  · go_wp2_with fail
    refine (pick_k g q4 B 4 xs _ (HR.out.alloc _) (by omega) (by omega)).mono ?_
    rintro e w5 ⟨z, q5, hz5, rfl, hq5, hr5, hf5, hs5⟩
    obtain ⟨m, rfl⟩ := Int.eq_ofNat_of_zero_le hz5.1
    have hm : m < 4 := by omega
    have hct := tab_at [0, 150, 999, 1000] _ rfl hf5 (.inr (by have := HS.out; omega)) hm
    have ho5 := (HO.out.alloc (.cells #[.int .i64 0, .int .i64 150, .int .i64 999, .int .i64 1000] 3)).fr hf5 (by omega)
    obtain ⟨u5, c5, _⟩ := ho5.cellAt (p := k * 4 + 2) (by omega)
    have z5 := ho5.frozenAt (k * 4 + 2)
    generalize tv [0, 150, 999, 1000] m = val at *
    obtain ⟨h1, h2⟩ := OwZ.store (p := k * 4 + 2) (u := .int .i64 val) ho5 ⟨_, rfl⟩
    have H1 := Lib.hid h1
    have H2 := Lib.hid h2
    have HF5 := Lib.hid ((HF.out.alloc _).trans hf5)
    have HR5 := Lib.hid hr5
    clear h1 h2 ho5 hf5 hr5 hs5
    have hkn : (k : Int) < (n : Int) := by omega
    go_wp2
    go_ret
    exact ⟨_, n, q5, rfl, by omega, H1.out, by omega, HR5.out.fr H2.out hB, HF5.out.later H2.out (Nat.le_refl _)⟩
  · go_wp2_with fail
    refine (pick_k g q4 B 4 xs _ (HR.out.alloc _) (by omega) (by omega)).mono ?_
    rintro e w5 ⟨z, q5, hz5, rfl, hq5, hr5, hf5, hs5⟩
    obtain ⟨m, rfl⟩ := Int.eq_ofNat_of_zero_le hz5.1
    have hm : m < 4 := by omega
    have hct := tab_at [0, 1, 3, 4] _ rfl hf5 (.inr (by have := HS.out; omega)) hm
    have ho5 := (HO.out.alloc (.cells #[.int .i64 0, .int .i64 1, .int .i64 3, .int .i64 4] 3)).fr hf5 (by omega)
    obtain ⟨u5, c5, _⟩ := ho5.cellAt (p := k * 4 + 3) (by omega)
    have z5 := ho5.frozenAt (k * 4 + 3)
    generalize tv [0, 1, 3, 4] m = val at *
    obtain ⟨h1, h2⟩ := OwZ.store (p := k * 4 + 3) (u := .int .i64 val) ho5 ⟨_, rfl⟩
    have H1 := Lib.hid h1
    have H2 := Lib.hid h2
    have HF5 := Lib.hid ((HF.out.alloc _).trans hf5)
    have HR5 := Lib.hid hr5
    clear h1 h2 ho5 hf5 hr5 hs5
    have hkn : (k : Int) < (n : Int) := by omega
    go_wp2
    go_ret
    exact ⟨_, n, q5, rfl, by omega, H1.out, by omega, HR5.out.fr H2.out hB, HF5.out.later H2.out (Nat.le_refl _)⟩
end Go.Proofs.Ytbceikhmoblacaa
