import Derived.Test.YtmendnmmiabolaaDoorT
import Derived.Maps.AppendAt
import Derived.Test.YtmendnmmiabolaaDoorR
namespace Go.Proofs.YtmendnmmiabolaaDoor
open Go.RowKit

theorem vet_of_bad (s : ByteArray) (h3 : s.size ≤ 300) (x : Int) (h : vetBad s = some x) : vetE s = 3 ∧ vetP s = x := by
  constructor
  · unfold vetE; rw [if_neg (by omega), h]
  · unfold vetP; rw [if_neg (by omega), h]
theorem vet_of_none (s : ByteArray) (h3 : s.size ≤ 300) (h : vetBad s = .none) : vetE s = 0 ∧ vetP s = 0 := by
  constructor
  · unfold vetE; rw [if_neg (by omega), h]
  · unfold vetP; rw [if_neg (by omega), h]
theorem bad_of_head (s : ByteArray) (x : Int) (h : headBad s = some x) : vetBad s = some x := by unfold vetBad; rw [h]

theorem segBad_pos (s : ByteArray) (p last fin x : Int) (hp : 0 ≤ p) (h : segBad s p last fin = some x) : 0 ≤ x := by
  have hc := seg_cases s p last fin
  rw [h] at hc
  simp only [Option.some.injEq, reduceCtorEq, and_false, or_false] at hc
  omega
theorem segment_no (s : ByteArray) (i last fin p x : Int) (hp : p = 8 + 8 * i) (hs : s.size ≤ 300) (hi : 0 ≤ i ∧ i ≤ 40) (h8 : p + 7 < (s.size : Int)) (h : segBad s p last fin = some x) (w : World) :
    Calls Tryd.prog 31 #[.string s, .int .i64 i, .int .i64 last, .int .i64 fin] w fun e w' => e = .returned (.tuple #[.agg #[.int .i64 (bt s p), .int .i64 (bt s (p + 1)), .int .i64 (bt s (p + 2)), .int .i64 (two s (p + 4)), .int .i64 (two s (p + 6))], .int .i64 x]) ∧ Below w.heap.size w w' :=
  (segment_any s i last fin p hp hs hi h8 w).mono fun e w' ⟨he, hb⟩ => ⟨by rw [he, h]; rfl, hb⟩
theorem segment_yes (s : ByteArray) (i last fin p : Int) (hp : p = 8 + 8 * i) (hs : s.size ≤ 300) (hi : 0 ≤ i ∧ i ≤ 40) (h8 : p + 7 < (s.size : Int)) (h : segBad s p last fin = .none) (w : World) :
    Calls Tryd.prog 31 #[.string s, .int .i64 i, .int .i64 last, .int .i64 fin] w fun e w' => e = .returned (.tuple #[.agg #[.int .i64 (bt s p), .int .i64 (bt s (p + 1)), .int .i64 (bt s (p + 2)), .int .i64 (two s (p + 4)), .int .i64 (two s (p + 6))], .int .i64 (-1)]) ∧ Below w.heap.size w w' :=
  (segment_any s i last fin p hp hs hi h8 w).mono fun e w' ⟨he, hb⟩ => ⟨by rw [he, h]; rfl, hb⟩

theorem app_cells {wr w1 w2 : World} {base : Nat} {v : Value} {n : Nat} {xs : List Value} {e : TypeId} {size : Nat} {a0 a1 a2 a3 a4 : Value} {t : TypeId} {B : Obj} (hown : wr.ownsRow base e size v n xs) (hb : Below wr.heap.size wr w1)
    (hg : ((w1.alloc (.cells #[a0, a1, a2, a3, a4] t)).alloc B).grownBy w2 v.ownBlock) :
    w1.heap.size + 2 ≤ w2.heap.size ∧ w2.cell? ⟨w1.heap.size, 0, none⟩ = some a0 ∧ w2.cell? ⟨w1.heap.size, 1, none⟩ = some a1 ∧ w2.cell? ⟨w1.heap.size, 2, none⟩ = some a2 ∧ w2.cell? ⟨w1.heap.size, 3, none⟩ = some a3 ∧ w2.cell? ⟨w1.heap.size, 4, none⟩ = some a4 := by
  have hz := hb.size
  have hne : some w1.heap.size ≠ v.ownBlock := by
    intro h
    have := (hown.lt _ h.symm).2
    omega
  refine ⟨?_, ?_, ?_, ?_, ?_, ?_⟩
  · have := hg.size; simp at this; omega
  all_goals exact hg.cell (by simp [go_sem]) hne

theorem Tryd.info62 : (Tryd.prog.info? 62).map (fun i => (i.zero, i.size, i.bytes)) = some (some (.agg #[.int .i64 0, .int .i64 0, .int .i64 0, .int .i64 0, .int .i64 0]), 5, 40) := by kernel_rfl
theorem Tryd.info66 : (Tryd.prog.info? 66).map (fun i => (i.zero, i.size, i.bytes)) = some (some (.agg #[.int .i64 0, .int .i64 0]), 2, 16) := by kernel_rfl

theorem vet_segs (s : ByteArray) (hH : headBad s = .none) (hL : ¬ (s.size : Int) < 8 + 8 * bt s 6 + 4 * bt s 7) (x : Int) (h : segsBad s (8 + 8 * bt s 6 + 4 * bt s 7) (bt s 6).toNat 8 0 = some x) : vetBad s = some x := by
  unfold vetBad; rw [hH]; simp only; rw [if_neg hL, h]

theorem vet_moves (s : ByteArray) (hH : headBad s = .none) (hL : ¬ (s.size : Int) < 8 + 8 * bt s 6 + 4 * bt s 7) (hS : segsBad s (8 + 8 * bt s 6 + 4 * bt s 7) (bt s 6).toNat 8 0 = .none) (x : Int) (h : movesBad s (bt s 6).toNat (bt s 7).toNat (8 + 8 * bt s 6) 0 = some x) : vetBad s = some x := by
  unfold vetBad; rw [hH]; simp only; rw [if_neg hL, hS]; simp only; rw [h]
theorem vet_code (s : ByteArray) (hH : headBad s = .none) (hL : ¬ (s.size : Int) < 8 + 8 * bt s 6 + 4 * bt s 7) (hS : segsBad s (8 + 8 * bt s 6 + 4 * bt s 7) (bt s 6).toNat 8 0 = .none) (hM : movesBad s (bt s 6).toNat (bt s 7).toNat (8 + 8 * bt s 6) 0 = .none) : vetBad s = if codeB s (two s 4) (bt s 6).toNat = true then .none else some 4 := by
  unfold vetBad; rw [hH]; simp only; rw [if_neg hL, hS]; simp only; rw [hM]

theorem mvVals_last (s : ByteArray) (q : Int) (j : Nat) : (mvVals s q (j + 1))[j * 2]? = some (.int .i64 (two s (q + 4 * (j : Int)))) := by
  rw [mvVals, List.getElem?_append_right (by rw [mvVals_length]; omega), mvVals_length]
  simp [mvVal]
theorem mv_cell {w : World} {base : Nat} {e : TypeId} {g j cap : Nat} {s : ByteArray} {q : Int} (h : w.ownsRow base e 2 (.slice (some ⟨g, 0, none⟩) (j + 1) cap) (j + 1) (mvVals s q (j + 1))) : w.cell? ⟨g, j * 2, none⟩ = some (.int .i64 (two s (q + 4 * (j : Int)))) := by
  have := h.cells (g := g) rfl (j * 2) _ (mvVals_last s q j)
  by_cases h0 : j * 2 = 0
  · simpa [Addr.add, h0] using this
  · simpa [Addr.add, h0] using this
theorem mvEnd_pos (s : ByteArray) (q : Int) (k : Nat) (h : 1 ≤ k) : mvEnd s q k = two s (q + 4 * ((k : Int) - 1)) + 2 := by
  obtain ⟨j, rfl⟩ : ∃ j, k = j + 1 := ⟨k - 1, by omega⟩
  rw [mvEnd, show q + 4 * (((j + 1 : Nat) : Int) - 1) = q + 4 * (j : Int) from by omega]
theorem mv_cell' {w : World} {base : Nat} {e : TypeId} {g k cap : Nat} {s : ByteArray} {q : Int} (hk : 1 ≤ k) (h : w.ownsRow base e 2 (.slice (some ⟨g, 0, none⟩) k cap) k (mvVals s q k)) : w.cell? ⟨g, (k - 1) * 2, none⟩ = some (.int .i64 (two s (q + 4 * ((k : Int) - 1)))) := by
  obtain ⟨j, rfl⟩ : ∃ j, k = j + 1 := ⟨k - 1, by omega⟩
  rw [show q + 4 * (((j + 1 : Nat) : Int) - 1) = q + 4 * (j : Int) from by omega]
  exact mv_cell h
theorem SegAt.grown {w w2 : World} {g n : Nat} {s : ByteArray} {row : Option Nat} (h : SegAt w g s n) (hg : w.grownBy w2 row) (hne : some g ≠ row) : SegAt w2 g s n := by
  intro k hk
  obtain ⟨h0, h1, h2, h3, h4⟩ := h k hk
  exact ⟨hg.cell h0 hne, hg.cell h1 hne, hg.cell h2 hne, hg.cell h3 hne, hg.cell h4 hne⟩
theorem SegAt.setCell {w : World} {g n : Nat} {s : ByteArray} (h : SegAt w g s n) (b o : Nat) (hb : g ≠ b) (u : Value) : SegAt (w.setCell ⟨b, o, none⟩ u) g s n := by
  intro k hk
  obtain ⟨h0, h1, h2, h3, h4⟩ := h k hk
  have hne : ∀ o', (⟨b, o, none⟩ : Addr) ≠ ⟨g, o', none⟩ := by intro o' hh; injection hh with h1; exact hb h1.symm
  exact ⟨by rw [World.cell?_setCell_other _ _ _ _ (hne _)]; exact h0, by rw [World.cell?_setCell_other _ _ _ _ (hne _)]; exact h1, by rw [World.cell?_setCell_other _ _ _ _ (hne _)]; exact h2, by rw [World.cell?_setCell_other _ _ _ _ (hne _)]; exact h3, by rw [World.cell?_setCell_other _ _ _ _ (hne _)]; exact h4⟩

set_option maxRecDepth 100000 in
set_option maxHeartbeats 30000000 in
theorem rvet_any (s : ByteArray) (w : World) :
    Calls Tryd.prog 16 #[.string s] w fun e w' => ∃ (x : Int) (ad : Option Addr) (l c : Nat) (ad2 : Option Addr) (l2 c2 : Nat), e = .returned (.tuple #[.agg #[.int .i64 x, .slice ad l c, .slice ad2 l2 c2], .int .i64 (vetE s), .int .i64 (vetP s)]) ∧ Below w.heap.size w w' := by
  by_cases h3 : 300 < (s.size : Int)
  · have HE : Hid (vetE s = 1) := by show vetE s = _; unfold vetE; rw [if_pos h3]
    have HP : Hid (vetP s = 0) := by show vetP s = _; unfold vetP; rw [if_pos h3]
    go_enter Tryd.func16, Tryd.ntmps16
    go_wp2
    refine bodyPost_ret (v := .tuple #[.agg #[.int .i64 0, .slice none 0 0, .slice none 0 0], .int .i64 1, .int .i64 0]) (by simp [results, Tryd.results16, go_sem]) rfl ⟨_, _, _, _, _, _, _, by rw [HE.out, HP.out], ?_⟩
    exact ((Below.refl _ _).alloc (Nat.le_refl _) _).alloc (by simp) _
  have hs : s.size ≤ 300 := by omega
  have hd3 : decide (300 < (s.size : Int)) = false := by simpa using h3
  clear h3
  have hbt := bt_nat s
  have hmg := magic_get
  have hms : (ByteArray.mk #[72, 66, 82, 49]).size = 4 := rfl
  go_enter Tryd.func16, Tryd.ntmps16
  go_wp2
  go_loopw [3, 4, 6] (fun p3 p4 i wr => p3 = .int .i64 0 ∧ p4 = .int .i64 0 ∧ ∃ k : Nat, k ≤ 4 ∧ i = .int .i64 k ∧ magicBad s 4 0 = magicBad s (4 - k) k ∧ XW w wr 0 (.slice none 0 0) (.slice none 0 0)) (fun _ _ i _ => 4 - (intOf i).toNat)
  case atStart => exact ⟨rfl, rfl, 0, by omega, rfl, rfl, XW.start w⟩
  case round =>
    obtain ⟨rfl, rfl, k, hk, rfl, hm, hx⟩ := hrel
    have Hm : Hid (magicBad s 4 0 = magicBad s (4 - k) k) := hm
    clear hm
    obtain ⟨xb, xz, r0, r1, r2, f0, f1, f2, x0, x1, x2, g0, g1, g2⟩ := hx
    have HX : Hid (XW w wr 0 (.slice none 0 0) (.slice none 0 0)) := ⟨xb, xz, r0, r1, r2, f0, f1, f2, x0, x1, x2, g0, g1, g2⟩
    by_cases h4 : k < 4
    · have h5 : (k : Int) < 4 := by omega
      by_cases hl : (k : Int) < (s.size : Int)
      · have hd : decide (s.size ≤ k) = false := by simp; omega
        have hd' : decide ((s.size : Int) ≤ (k : Int)) = false := by simp; omega
        by_cases he : bt s k = magicAt k
        · have HM' : Hid (magicBad s 4 0 = magicBad s (4 - (k + 1)) ((k : Int) + 1)) := Hm.out.trans (magic_next s k h4 hl he)
          have he2 : (bt s k != magicAt k) = false := by simpa using he
          clear he
          go_wp2_with fail
          go_quiet (fail)
          go_wp2_with fail
          go_roundw
          case rel => exact ⟨rfl, rfl, k + 1, by omega, by go_num, HM'.out, HX.out.drewN _⟩
          case measure => simp [intOf]; omega
        · have HV := vet_of_bad s hs k (bad_of_head s k (head_magic s k (Hm.out.trans (magic_stop s k h4 (fun h => he h.2)))))
          have HE : Hid (vetE s = 3) := HV.1
          have HP : Hid (vetP s = k) := HV.2
          have he2 : (bt s k != magicAt k) = true := by simpa using he
          clear he HV
          go_wp2_with fail
          go_quiet (fail)
          go_wp2_with fail
          refine bodyPost_ret (v := .tuple #[.agg #[.int .i64 0, .slice none 0 0, .slice none 0 0], .int .i64 3, .int .i64 k]) (by simp [results, Tryd.results16, go_sem, r0, r1, r2]) rfl ⟨_, _, _, _, _, _, _, by rw [HE.out, HP.out], (HX.out.drewN _).done _ _ _⟩
      · have HV := vet_of_bad s hs k (bad_of_head s k (head_magic s k (Hm.out.trans (magic_stop s k h4 (fun h => hl h.1)))))
        have HE : Hid (vetE s = 3) := HV.1
        have HP : Hid (vetP s = k) := HV.2
        have hd : decide (s.size ≤ k) = true := by simp; omega
        have hd' : decide ((s.size : Int) ≤ (k : Int)) = true := by simp; omega
        clear HV
        go_wp2_with fail
        go_quiet (fail)
        go_wp2_with fail
        refine bodyPost_ret (v := .tuple #[.agg #[.int .i64 0, .slice none 0 0, .slice none 0 0], .int .i64 3, .int .i64 k]) (by simp [results, Tryd.results16, go_sem, r0, r1, r2]) rfl ⟨_, _, _, _, _, _, _, by rw [HE.out, HP.out], (HX.out.drewN _).done _ _ _⟩
    · have hk4 : k = 4 := by omega
      subst hk4
      have HM' : Hid (headBad s = if (s.size : Int) < 8 then some (s.size : Int) else if bt s 6 < 1 ∨ 4 < bt s 6 then some 6 else if 4 < bt s 7 then some 7 else .none) := head_else s Hm.out
      clear Hm
      by_cases a8 : (s.size : Int) < 8
      · have HV := vet_of_bad s hs _ (bad_of_head s (s.size : Int) (by rw [HM'.out, if_pos a8]))
        have HE : Hid (vetE s = 3) := HV.1
        have HP : Hid (vetP s = (s.size : Int)) := HV.2
        clear HV
        go_wp2_with fail
        refine bodyPost_ret (v := .tuple #[.agg #[.int .i64 0, .slice none 0 0, .slice none 0 0], .int .i64 3, .int .i64 (s.size : Int)]) (by simp [results, Tryd.results16, go_sem, r0, r1, r2]) rfl ⟨_, _, _, _, _, _, _, by rw [HE.out, HP.out], HX.out.done _ _ _⟩
      have l6 : (6 : Int) < (s.size : Int) := by omega
      have l7 : (7 : Int) < (s.size : Int) := by omega
      have m6 : 6 < s.size := by omega
      have m7 : 7 < s.size := by omega
      have k6 : ((s[6]'m6).toNat : Int) = bt s 6 := hbt 6 m6
      have k7 : ((s[7]'m7).toNat : Int) = bt s 7 := hbt 7 m7
      have b6 := bt_bd s 6
      have b7 := bt_bd s 7
      have hd8 : decide ((s.size : Int) < 8) = false := by simpa using a8
      by_cases c1 : 1 ≤ bt s 6 ∧ bt s 6 ≤ 4
      rotate_left
      · have HV := vet_of_bad s hs _ (bad_of_head s 6 (by rw [HM'.out, if_neg a8, if_pos (by omega)]))
        have HE : Hid (vetE s = 3) := HV.1
        have HP : Hid (vetP s = 6) := HV.2
        have dd : decide (bt s 6 < 1) = true ∨ (decide (bt s 6 < 1) = false ∧ decide (4 < bt s 6) = true) := by simp; omega
        clear HV c1
        rcases dd with dd | ⟨dd, d2⟩
        all_goals
          go_wp2_with (go_at_call 30; refine (two_any s 4 hs (by omega) (by omega) _).mono ?_; rintro e w1 ⟨rfl, nq, rfl⟩)
          refine bodyPost_ret (v := .tuple #[.agg #[.int .i64 (two s 4), .slice none 0 0, .slice none 0 0], .int .i64 3, .int .i64 6]) (by simp [results, Tryd.results16, go_sem, r0, r1, r2]) rfl ⟨_, _, _, _, _, _, _, by rw [HE.out, HP.out], ((HX.out.drewN _).entry _).done _ _ _⟩
      by_cases c2 : bt s 7 ≤ 4
      rotate_left
      · have HV := vet_of_bad s hs _ (bad_of_head s 7 (by rw [HM'.out, if_neg a8, if_neg (by omega), if_pos (by omega)]))
        have HE : Hid (vetE s = 3) := HV.1
        have HP : Hid (vetP s = 7) := HV.2
        have dd : decide (4 < bt s 7) = true := by simp; omega
        obtain ⟨c1a, c1b⟩ := c1
        clear HV
        go_wp2_with (go_at_call 30; refine (two_any s 4 hs (by omega) (by omega) _).mono ?_; rintro e w1 ⟨rfl, nq, rfl⟩)
        refine bodyPost_ret (v := .tuple #[.agg #[.int .i64 (two s 4), .slice none 0 0, .slice none 0 0], .int .i64 3, .int .i64 7]) (by simp [results, Tryd.results16, go_sem, r0, r1, r2]) rfl ⟨_, _, _, _, _, _, _, by rw [HE.out, HP.out], ((HX.out.drewN _).entry _).done _ _ _⟩
      have HH : Hid (headBad s = .none) := by show headBad s = _; rw [HM'.out, if_neg a8, if_neg (by omega), if_neg (by omega)]
      obtain ⟨c1a, c1b⟩ := c1
      by_cases hL : (s.size : Int) < 8 + 8 * bt s 6 + 4 * bt s 7
      · have HV := vet_of_bad s hs (s.size : Int) (by unfold vetBad; rw [HH.out]; simp only; rw [if_pos hL])
        have HE : Hid (vetE s = 3) := HV.1
        have HP : Hid (vetP s = (s.size : Int)) := HV.2
        clear HV
        go_wp2_with (go_at_call 30; refine (two_any s 4 hs (by omega) (by omega) _).mono ?_; rintro e w1 ⟨rfl, nq, rfl⟩)
        refine bodyPost_ret (v := .tuple #[.agg #[.int .i64 (two s 4), .slice none 0 0, .slice none 0 0], .int .i64 3, .int .i64 (s.size : Int)]) (by simp [results, Tryd.results16, go_sem, r0, r1, r2]) rfl ⟨_, _, _, _, _, _, _, by rw [HE.out, HP.out], ((HX.out.drewN _).entry _).done _ _ _⟩
      obtain ⟨n, hn⟩ : ∃ n : Nat, bt s 6 = (n : Int) := ⟨(bt s 6).toNat, by omega⟩
      obtain ⟨m, hm⟩ : ∃ m : Nat, bt s 7 = (m : Int) := ⟨(bt s 7).toNat, by omega⟩
      have HL : Hid (¬ (s.size : Int) < 8 + 8 * bt s 6 + 4 * bt s 7) := hL
      have HN : Hid (bt s 6 = (n : Int)) := hn
      have HMM : Hid (bt s 7 = (m : Int)) := hm
      have hn4 : n ≤ 4 := by omega
      have hn1 : 1 ≤ n := by omega
      have hm4 : m ≤ 4 := by omega
      have hL' : 8 + 8 * (n : Int) + 4 * (m : Int) ≤ (s.size : Int) := by omega
      rw [hn] at k6
      rw [hm] at k7
      have dn1 : decide ((n : Int) < 1) = false := by simp; omega
      have dn4 : decide (4 < (n : Int)) = false := by simp; omega
      have dm4 : decide (4 < (m : Int)) = false := by simp; omega
      have dL : decide ((s.size : Int) < 8 + 8 * (n : Int) + 4 * (m : Int)) = false := by simp; omega
      clear hn hm hL c1a c1b c2 b6 b7 a8 hd8 hbt hmg hms
      have hd8 : decide ((s.size : Int) < 8) = false := by simp; omega
      have en1 : decide (n < 1) = false := by simp; omega
      have en4 : decide (4 < n) = false := by simp; omega
      have em4 : decide (4 < m) = false := by simp; omega
      have ed8 : decide (s.size < 8) = false := by simp; omega
      go_wp2_with (go_at_call 30; refine (two_any s 4 hs (by omega) (by omega) _).mono ?_; rintro e w1 ⟨rfl, nq, rfl⟩)
      go_loopw [10, 11] (fun l i wr => ∃ (k : Nat) (v : Value), k ≤ n ∧ i = .int .i64 k ∧ l = .int .i64 (lastEnd s k) ∧ segsBad s (8 + 8 * (n : Int) + 4 * (m : Int)) n 8 0 = segsBad s (8 + 8 * (n : Int) + 4 * (m : Int)) (n - k) (8 + 8 * (k : Int)) (lastEnd s k) ∧ wr.ownsRow (w.heap.size + 2) 62 5 v k (segVals s k) ∧ XW w wr (two s 4) v (.slice none 0 0)) (fun _ i _ => n - (intOf i).toNat)
      case atStart => exact ⟨0, _, by omega, rfl, rfl, rfl, World.ownsRow_nil _ _ _ _, (HX.out.drewN _).entry _⟩
      case round =>
        clear xb xz r0 r1 r2 f0 f1 f2 x0 x1 x2 g0 g1 g2 HX k6 k7 dn1 dn4 dm4 dL hd8 hd3 en1 en4 em4 ed8
        obtain ⟨k, v, hk, rfl, rfl, hm, hown, hx⟩ := hrel
        obtain ⟨ad, cp, rfl⟩ := own_form hown
        have Hs : Hid (segsBad s (8 + 8 * (n : Int) + 4 * (m : Int)) n 8 0 = segsBad s (8 + 8 * (n : Int) + 4 * (m : Int)) (n - k) (8 + 8 * (k : Int)) (lastEnd s k)) := hm
        clear hm
        have HO : Hid (wr.ownsRow (w.heap.size + 2) 62 5 (.slice ad k cp) k (segVals s k)) := hown
        clear hown
        obtain ⟨xb, xz, r0, r1, r2, f0, f1, f2, x0, x1, x2, g0, g1, g2⟩ := hx
        have HX : Hid (XW w wr (two s 4) (.slice ad k cp) (.slice none 0 0)) := ⟨xb, xz, r0, r1, r2, f0, f1, f2, x0, x1, x2, g0, g1, g2⟩
        by_cases hlt : k < n
        · have hl : (k : Int) < (n : Int) := by omega
          cases hB : segBad s (8 + 8 * (k : Int)) (lastEnd s k) (8 + 8 * (n : Int) + 4 * (m : Int)) with
          | some x =>
            have HB : Hid (segBad s (8 + 8 * (k : Int)) (lastEnd s k) (8 + 8 * (n : Int) + 4 * (m : Int)) = some x) := hB
            have hx0 : 0 ≤ x := segBad_pos s _ _ _ x (by omega) hB
            have HV := vet_of_bad s hs x (vet_segs s HH.out (by have := HL.out; omega) x (by rw [HN.out, HMM.out, Int.toNat_natCast, Hs.out, show n - k = (n - (k + 1)) + 1 from by omega]; exact segs_stop _ _ _ _ _ _ hB))
            have HE : Hid (vetE s = 3) := HV.1
            have HP : Hid (vetP s = x) := HV.2
            clear HV hB
            go_wp2_with (go_at_call 31; refine (segment_no s _ _ _ (8 + 8 * (k : Int)) x rfl hs (by omega) (by omega) HB.out _).mono ?_; rintro e w1 ⟨rfl, hb⟩; obtain ⟨y1, y2, y3, y4, y5, y6, y7, y8, y9, y10, y11, y12, y13, y14⟩ := HX.out.below hb; have q0 : w.heap.size < w1.heap.size := (by omega); have q1 : w.heap.size + 1 < w1.heap.size := (by omega))
            refine bodyPost_ret (v := .tuple #[.agg #[.int .i64 (two s 4), .slice ad k cp, .slice none 0 0], .int .i64 3, .int .i64 x]) (by simp [results, Tryd.results16, go_sem, y3, y4, y5, q0]) rfl ⟨_, _, _, _, _, _, _, by rw [HE.out, HP.out], ?_⟩
            exact ((HX.out.below hb).done _ _ _).alloc (by simp; omega) _
          | none =>
            have HB : Hid (segBad s (8 + 8 * (k : Int)) (lastEnd s k) (8 + 8 * (n : Int) + 4 * (m : Int)) = .none) := hB
            clear hB
            have p0 := bt_bd s (8 + 8 * (k : Int))
            have p1 := bt_bd s (8 + 8 * (k : Int) + 1)
            obtain ⟨i0, hi, hz0, hz1, hz2⟩ := info_parts Tryd.info62
            go_wp2_with (first
              | (go_at_call 31; refine (segment_yes s _ _ _ (8 + 8 * (k : Int)) rfl hs (by omega) (by omega) HB.out _).mono ?_; rintro e w1 ⟨rfl, hb⟩; obtain ⟨y1, y2, y3, y4, y5, y6, y7, y8, y9, y10, y11, y12, y13, y14⟩ := HX.out.below hb; have q0 : w.heap.size < w1.heap.size := (by omega); have q1 : w.heap.size + 1 < w1.heap.size := (by omega); have ho1 := ownsRow_below HO.out hb)
              | (at_builtin; refine wpList_append_own _ rfl _ _ 39 rfl (w.heap.size + 2) 62 i0 _ 5 40 Tryd.underlying39 hi hz0 hz1 hz2 rfl (by decide) _ _ _ rfl ((ho1.alloc _).alloc _) ⟨w1.heap.size + 1, 0, none⟩ 1 1 (segVal s (8 + 8 * (k : Int))) rfl rfl ?c1 (segVal_one s _) (by unfold maxLen; omega) (by omega) ?c5 ?_))
            case c1 => exact fun j u h => segVal_cells' _ _ (by simp) s _ 62 j u h
            case c5 => simp; omega
            intro v' w2 hown' hgrow _
            obtain ⟨R2, R3, R4, R5, R6, R7⟩ := app_cells HO.out hb hgrow
            obtain ⟨ad', cp', rfl⟩ := own_form hown'
            have HX2 := (((HX.out.below hb).alloc _).alloc _).grown hgrow (fun k' hk' => (HO.out.lt k' hk').1)
            have HX3 : Hid (XW w w2 (two s 4) (.slice ad k cp) (.slice none 0 0)) := HX2
            obtain ⟨z1, z2, z3, z4, z5, z6, z7, z8, z9, z10, z11, z12, z13, z14⟩ := HX2
            have HN2 : Hid (w2.ownsRow (w.heap.size + 2) 62 5 (.slice ad' (k + 1) cp') (k + 1) (segVals s (k + 1))) := hown'
            have qa : ¬ w1.heap.size = w.heap.size + 1 := by omega
            have qb : ¬ w.heap.size + 1 = w1.heap.size := by omega
            clear hown' hgrow ho1 xb xz r0 r1 r2 f0 f1 f2 x0 x1 x2 g0 g1 g2 y1 y2 y3 y4 y5 y6 y7 y8 y9 y10 y11 y12 y13 y14
            go_wp2_with fail
            go_roundw
            case rel =>
              refine ⟨k + 1, _, by omega, by go_num, rfl, ?_, ownsRow_setCell HN2.out _ _ (by omega) _, HX3.out.segs _⟩
              rw [Hs.out, show n - k = (n - (k + 1)) + 1 from by omega, segs_next _ _ _ _ _ HB.out]
              rw [show (8 : Int) + 8 * ((k + 1 : Nat) : Int) = 8 + 8 * (k : Int) + 8 from by omega]
              rfl
            case measure => simp [intOf]; omega
        · have hkn : k = n := by omega
          subst hkn
          have HS0 : Hid (segsBad s (8 + 8 * (k : Int) + 4 * (m : Int)) k 8 0 = .none) := by
            show segsBad s (8 + 8 * (k : Int) + 4 * (m : Int)) k 8 0 = _
            rw [Hs.out, Nat.sub_self]; rfl
          clear Hs hlt hk
          obtain ⟨g, rfl⟩ : ∃ g, ad = some ⟨g, 0, none⟩ := by
            rcases HO.out.2 with ⟨_, h2⟩ | ⟨g, cap, cur, hv, _⟩
            · omega
            · injection hv with h1; exact ⟨g, h1⟩
          have HC0 : Hid (SegAt wr g s k) := segAt_own HO.out
          have hgl0 := HO.out.lt g rfl
          generalize k = n at *
          go_wp2_with fail
          go_loopw [14] (fun i wr => ∃ (k : Nat) (v2 : Value), k ≤ m ∧ i = .int .i64 k ∧ movesBad s n m (8 + 8 * (n : Int)) 0 = movesBad s n (m - k) (8 + 8 * (n : Int) + 4 * (k : Int)) (mvEnd s (8 + 8 * (n : Int)) k) ∧ wr.ownsRow (w.heap.size + 2) 66 2 v2 k (mvVals s (8 + 8 * (n : Int)) k) ∧ v2.ownBlock ≠ some g ∧ g < wr.heap.size ∧ SegAt wr g s n ∧ XW w wr (two s 4) (.slice (some ⟨g, 0, none⟩) n cp) v2) (fun i _ => m - (intOf i).toNat)
          case atStart => exact ⟨0, _, by omega, rfl, by simp [mvEnd], World.ownsRow_nil _ _ _ _, by simp [Value.ownBlock], hgl0.2, HC0.out, HX.out⟩
          case round =>
            have hg2 : w.heap.size + 2 ≤ g := hgl0.1
            clear xb xz r0 r1 r2 f0 f1 f2 x0 x1 x2 g0 g1 g2 HX HC0 hgl0 HO
            obtain ⟨k, v2, hk, rfl, hm, hown, hob, hgl, hseg, hx⟩ := hrel
            obtain ⟨ad2, cp2, rfl⟩ := own_form hown
            have Hs : Hid (movesBad s n m (8 + 8 * (n : Int)) 0 = movesBad s n (m - k) (8 + 8 * (n : Int) + 4 * (k : Int)) (mvEnd s (8 + 8 * (n : Int)) k)) := hm
            have HO : Hid (wr.ownsRow (w.heap.size + 2) 66 2 (.slice ad2 k cp2) k (mvVals s (8 + 8 * (n : Int)) k)) := hown
            have HC : Hid (SegAt wr g s n) := hseg
            have HOB : Hid ((Value.slice ad2 k cp2).ownBlock ≠ some g) := hob
            clear hm hown hseg hob
            obtain ⟨xb, xz, r0, r1, r2, f0, f1, f2, x0, x1, x2, g0, g1, g2⟩ := hx
            have HX : Hid (XW w wr (two s 4) (.slice (some ⟨g, 0, none⟩) n cp) (.slice ad2 k cp2)) := ⟨xb, xz, r0, r1, r2, f0, f1, f2, x0, x1, x2, g0, g1, g2⟩
            have q0 : w.heap.size < wr.heap.size := by omega
            have q1 : w.heap.size + 1 < wr.heap.size := by omega
            have t0 := two_bd s (8 + 8 * (n : Int) + 4 * (k : Int))
            have had : ∀ (x : World) (n' : Nat) (o : Obj), (x.drewN n').alloc o = (x.alloc o).drewN n' := fun _ _ _ => rfl
            have hsd : ∀ (x : World) (n' : Nat) (a : Addr) (u : Value), (x.drewN n').setCell a u = (x.setCell a u).drewN n' := fun _ _ _ _ => rfl
            by_cases hlt : k < m
            · have hl : (k : Int) < (m : Int) := by omega
              cases hmv : movB s (two s (8 + 8 * (n : Int) + 4 * (k : Int))) n with
              | false =>
                have HV := vet_of_bad s hs (8 + 8 * (n : Int) + 4 * (k : Int)) (vet_moves s HH.out (by have := HL.out; omega) (by rw [HN.out, HMM.out, Int.toNat_natCast]; exact HS0.out) _ (by rw [HN.out, HMM.out, Int.toNat_natCast, Int.toNat_natCast, Hs.out, show m - k = (m - (k + 1)) + 1 from by omega]; exact moves_stop _ _ _ _ _ (fun h => by rw [hmv] at h; exact absurd h.2 (by simp))))
                have HE : Hid (vetE s = 3) := HV.1
                have HP : Hid (vetP s = 8 + 8 * (n : Int) + 4 * (k : Int)) := HV.2
                clear HV
                go_wp2_with (first
              | (go_at_call 30; refine (two_any s _ hs (by omega) (by omega) _).mono ?_; rintro e w1 ⟨rfl, nq, rfl⟩)
              | (go_at_call 32; refine (moved_any s g n cp _ t0 hn4 _ (HC.out.below hgl (by repeat (first | exact Below.refl _ _ | refine below_drewN ?_ _ | refine Below.alloc ?_ (by simp) _)))).mono ?_; rintro e w1 ⟨rfl, rfl⟩))
                go_quiet (fail)
                go_wp2_with fail
                refine bodyPost_ret (v := .tuple #[.agg #[.int .i64 (two s 4), .slice (some ⟨g, 0, none⟩) n cp, .slice ad2 k cp2], .int .i64 3, .int .i64 (8 + 8 * (n : Int) + 4 * (k : Int))]) (by simp [results, Tryd.results16, go_sem, r0, r1, r2, q0]) rfl ⟨_, _, _, _, _, _, _, by rw [HE.out, HP.out], ?_⟩
                exact below_drewN ((HX.out.done _ _ _).alloc (by simp; omega) _) _
              | true =>
                have HMV : Hid (movB s (two s (8 + 8 * (n : Int) + 4 * (k : Int))) n = true) := hmv
                obtain ⟨i1, hi, hz0, hz1, hz2⟩ := info_parts Tryd.info66
                by_cases hk0 : 1 ≤ k
                · obtain ⟨gm, rfl⟩ : ∃ gm, ad2 = some ⟨gm, 0, none⟩ := by
                    rcases HO.out.2 with ⟨_, h2⟩ | ⟨gm, cap, cur, hv, _⟩
                    · omega
                    · injection hv with h1; exact ⟨gm, h1⟩
                  obtain ⟨j, hj⟩ : ∃ j : Nat, (k : Int) - 1 = (j : Int) := ⟨k - 1, by omega⟩
                  have mc := mv_cell' hk0 HO.out
                  rw [show k - 1 = j from by omega, hj] at mc
                  have hp := mvEnd_pos s (8 + 8 * (n : Int)) k hk0
                  rw [hj] at hp
                  have HPp : Hid (mvEnd s (8 + 8 * (n : Int)) k = two s (8 + 8 * (n : Int) + 4 * (j : Int)) + 2) := hp
                  have t1 := two_bd s (8 + 8 * (n : Int) + 4 * (j : Int))
                  have w1' : IntKind.i64.wrap (j : Int) = (j : Int) := wrapI (by omega) (by omega)
                  have w2' : IntKind.i64.wrap (two s (8 + 8 * (n : Int) + 4 * (j : Int)) + 2) = two s (8 + 8 * (n : Int) + 4 * (j : Int)) + 2 := wrapI (by omega) (by omega)
                  have hq2 : (j : Int) < (k : Int) := by omega
                  have hq3 : j < k := by omega
                  have hq4 : (0 : Int) < (k : Int) := by omega
                  have hq5 : 0 < k := by omega
                  have hq6 : gm < wr.heap.size := (HO.out.lt gm rfl).2
                  clear hp
                  by_cases hc : two s (8 + 8 * (n : Int) + 4 * (k : Int)) < two s (8 + 8 * (n : Int) + 4 * (j : Int)) + 2
                  · have HV := vet_of_bad s hs (8 + 8 * (n : Int) + 4 * (k : Int)) (vet_moves s HH.out (by have := HL.out; omega) (by rw [HN.out, HMM.out, Int.toNat_natCast]; exact HS0.out) _ (by rw [HN.out, HMM.out, Int.toNat_natCast, Int.toNat_natCast, Hs.out, show m - k = (m - (k + 1)) + 1 from by omega]; exact moves_stop _ _ _ _ _ (fun h => by have h1 := h.1; rw [HPp.out] at h1; omega)))
                    have HE : Hid (vetE s = 3) := HV.1
                    have HP : Hid (vetP s = 8 + 8 * (n : Int) + 4 * (k : Int)) := HV.2
                    have dc : decide (two s (8 + 8 * (n : Int) + 4 * (k : Int)) < two s (8 + 8 * (n : Int) + 4 * (j : Int)) + 2) = true := by simpa using hc
                    clear HV
                    go_wp2_with (first
              | (go_at_call 30; refine (two_any s _ hs (by omega) (by omega) _).mono ?_; rintro e w1 ⟨rfl, nq, rfl⟩)
              | (go_at_call 32; refine (moved_any s g n cp _ t0 hn4 _ (HC.out.below hgl (by repeat (first | exact Below.refl _ _ | refine below_drewN ?_ _ | refine Below.alloc ?_ (by simp) _)))).mono ?_; rintro e w1 ⟨rfl, rfl⟩))
                    go_quiet (fail)
                    go_wp2_with fail
                    refine bodyPost_ret (v := .tuple #[.agg #[.int .i64 (two s 4), .slice (some ⟨g, 0, none⟩) n cp, .slice (some ⟨gm, 0, none⟩) k cp2], .int .i64 3, .int .i64 (8 + 8 * (n : Int) + 4 * (k : Int))]) (by simp [results, Tryd.results16, go_sem, r0, r1, r2, q0]) rfl ⟨_, _, _, _, _, _, _, by rw [HE.out, HP.out], ?_⟩
                    exact below_drewN ((HX.out.done _ _ _).alloc (by simp; omega) _) _
                  · have dc : decide (two s (8 + 8 * (n : Int) + 4 * (k : Int)) < two s (8 + 8 * (n : Int) + 4 * (j : Int)) + 2) = false := by simpa using hc
                    have hend : mvEnd s (8 + 8 * (n : Int)) k ≤ two s (8 + 8 * (n : Int) + 4 * (k : Int)) := by rw [HPp.out]; omega
                    have HEND : Hid (mvEnd s (8 + 8 * (n : Int)) k ≤ two s (8 + 8 * (n : Int) + 4 * (k : Int))) := hend
                    clear hend
                    go_wp2_with (first
              | (go_at_call 30; refine (two_any s _ hs (by omega) (by omega) _).mono ?_; rintro e w1 ⟨rfl, nq, rfl⟩)
              | (go_at_call 32; refine (moved_any s g n cp _ t0 hn4 _ (HC.out.below hgl (by repeat (first | exact Below.refl _ _ | refine below_drewN ?_ _ | refine Below.alloc ?_ (by simp) _)))).mono ?_; rintro e w1 ⟨rfl, rfl⟩))
                    go_quiet (fail)
                    go_wp2_with (at_builtin; refine wpList_append_own_at _ rfl _ _ 40 rfl (w.heap.size + 2) 66 i1 _ 2 16 Tryd.underlying40 hi hz0 hz1 hz2 rfl (by decide) _ _ _ rfl (ownsRow_below HO.out (by repeat (first | exact Below.refl _ _ | refine below_drewN ?_ _ | refine Below.alloc ?_ (by simp) _))) ⟨wr.heap.size + 1, 0, none⟩ 1 1 (mvVal s (8 + 8 * (n : Int) + 4 * (k : Int))) rfl rfl ?c1 (mvVal_one s _) (by unfold maxLen; omega) (by omega) ?c5 ?_)
                    case c1 => exact fun j' u h => mvVal_cells (wr.alloc _) _ (by simp) s _ 66 j' u h
                    case c5 => simp; omega
                    intro v' w2 hown' hgrow _ hat
                    obtain ⟨ad', cp', rfl⟩ := own_form hown'
                    have HX2 := (HX.out.below (by repeat (first | exact Below.refl _ _ | refine below_drewN ?_ _ | refine Below.alloc ?_ (by simp) _))).grown hgrow (fun k' hk' => (HO.out.lt k' hk').1)
                    have HX3 : Hid (XW w w2 (two s 4) (.slice (some ⟨g, 0, none⟩) n cp) (.slice (some ⟨gm, 0, none⟩) k cp2)) := HX2
                    obtain ⟨z1, z2, z3, z4, z5, z6, z7, z8, z9, z10, z11, z12, z13, z14⟩ := HX2
                    have HN2 : Hid (w2.ownsRow (w.heap.size + 2) 66 2 (.slice ad' (k + 1) cp') (k + 1) (mvVals s (8 + 8 * (n : Int)) (k + 1))) := hown'
                    have HC2 : Hid (SegAt w2 g s n) := (HC.out.below hgl (by repeat (first | exact Below.refl _ _ | refine below_drewN ?_ _ | refine Below.alloc ?_ (by simp) _))).grown hgrow (fun h => HOB.out h.symm)
                    have hz2' : g < w2.heap.size := by have := hgrow.size; simp at this; omega
                    have HOB2 : Hid ((Value.slice ad' (k + 1) cp').ownBlock ≠ some g) := by
                      show (Value.slice ad' (k + 1) cp').ownBlock ≠ some g
                      rcases hat with h | h
                      · rw [h]; exact HOB.out
                      · rw [h]; intro h'; have h2 := Option.some.inj h'; omega
                    clear hown' hgrow hat xb xz r0 r1 r2 f0 f1 f2 x0 x1 x2 g0 g1 g2 q0 q1
                    go_wp2_with fail
                    go_roundw
                    case rel =>
                      refine ⟨k + 1, _, by omega, by go_num, ?_, ownsRow_setCell HN2.out _ _ (by omega) _, HOB2.out, by simpa using hz2', HC2.out.setCell _ _ (by omega) _, HX3.out.moves _⟩
                      rw [Hs.out, show m - k = (m - (k + 1)) + 1 from by omega, moves_next _ _ _ _ _ HEND.out HMV.out]
                      rw [show (8 : Int) + 8 * (n : Int) + 4 * ((k + 1 : Nat) : Int) = 8 + 8 * (n : Int) + 4 * (k : Int) + 4 from by omega]
                      rfl
                    case measure => simp [intOf]; omega
                · have hk00 : k = 0 := by omega
                  have dk : decide ((0 : Int) < (k : Int)) = false := by simp; omega
                  have dk' : decide (0 < k) = false := by simp; omega
                  have HEND : Hid (mvEnd s (8 + 8 * (n : Int)) k ≤ two s (8 + 8 * (n : Int) + 4 * (k : Int))) := by
                    show mvEnd s (8 + 8 * (n : Int)) k ≤ _
                    rw [hk00, mvEnd]; rw [hk00] at t0; exact t0.1
                  clear hk00
                  go_wp2_with (first
              | (go_at_call 30; refine (two_any s _ hs (by omega) (by omega) _).mono ?_; rintro e w1 ⟨rfl, nq, rfl⟩)
              | (go_at_call 32; refine (moved_any s g n cp _ t0 hn4 _ (HC.out.below hgl (by repeat (first | exact Below.refl _ _ | refine below_drewN ?_ _ | refine Below.alloc ?_ (by simp) _)))).mono ?_; rintro e w1 ⟨rfl, rfl⟩))
                  go_quiet (fail)
                  go_wp2_with (at_builtin; refine wpList_append_own_at _ rfl _ _ 40 rfl (w.heap.size + 2) 66 i1 _ 2 16 Tryd.underlying40 hi hz0 hz1 hz2 rfl (by decide) _ _ _ rfl (ownsRow_below HO.out (by repeat (first | exact Below.refl _ _ | refine below_drewN ?_ _ | refine Below.alloc ?_ (by simp) _))) ⟨wr.heap.size + 1, 0, none⟩ 1 1 (mvVal s (8 + 8 * (n : Int) + 4 * (k : Int))) rfl rfl ?c1 (mvVal_one s _) (by unfold maxLen; omega) (by omega) ?c5 ?_)
                  case c1 => exact fun j' u h => mvVal_cells (wr.alloc _) _ (by simp) s _ 66 j' u h
                  case c5 => simp; omega
                  intro v' w2 hown' hgrow _ hat
                  obtain ⟨ad', cp', rfl⟩ := own_form hown'
                  have HX2 := (HX.out.below (by repeat (first | exact Below.refl _ _ | refine below_drewN ?_ _ | refine Below.alloc ?_ (by simp) _))).grown hgrow (fun k' hk' => (HO.out.lt k' hk').1)
                  have HX3 : Hid (XW w w2 (two s 4) (.slice (some ⟨g, 0, none⟩) n cp) (.slice ad2 k cp2)) := HX2
                  obtain ⟨z1, z2, z3, z4, z5, z6, z7, z8, z9, z10, z11, z12, z13, z14⟩ := HX2
                  have HN2 : Hid (w2.ownsRow (w.heap.size + 2) 66 2 (.slice ad' (k + 1) cp') (k + 1) (mvVals s (8 + 8 * (n : Int)) (k + 1))) := hown'
                  have HC2 : Hid (SegAt w2 g s n) := (HC.out.below hgl (by repeat (first | exact Below.refl _ _ | refine below_drewN ?_ _ | refine Below.alloc ?_ (by simp) _))).grown hgrow (fun h => HOB.out h.symm)
                  have hz2' : g < w2.heap.size := by have := hgrow.size; simp at this; omega
                  have HOB2 : Hid ((Value.slice ad' (k + 1) cp').ownBlock ≠ some g) := by
                    show (Value.slice ad' (k + 1) cp').ownBlock ≠ some g
                    rcases hat with h | h
                    · rw [h]; exact HOB.out
                    · rw [h]; intro h'; have h2 := Option.some.inj h'; omega
                  clear hown' hgrow hat xb xz r0 r1 r2 f0 f1 f2 x0 x1 x2 g0 g1 g2 q0 q1
                  go_wp2_with fail
                  go_roundw
                  case rel =>
                    refine ⟨k + 1, _, by omega, by go_num, ?_, ownsRow_setCell HN2.out _ _ (by omega) _, HOB2.out, by simpa using hz2', HC2.out.setCell _ _ (by omega) _, HX3.out.moves _⟩
                    rw [Hs.out, show m - k = (m - (k + 1)) + 1 from by omega, moves_next _ _ _ _ _ HEND.out HMV.out]
                    rw [show (8 : Int) + 8 * (n : Int) + 4 * ((k + 1 : Nat) : Int) = 8 + 8 * (n : Int) + 4 * (k : Int) + 4 from by omega]
                    rfl
                  case measure => simp [intOf]; omega
            · have hkm : k = m := by omega
              subst hkm
              have HM0 : Hid (movesBad s n k (8 + 8 * (n : Int)) 0 = .none) := by
                show movesBad s n k (8 + 8 * (n : Int)) 0 = _
                rw [Hs.out, Nat.sub_self]; rfl
              have VC : Hid (vetBad s = if codeB s (two s 4) n = true then .none else some 4) := by
                show vetBad s = _
                have h := vet_code s HH.out (by have := HL.out; omega) (by rw [HN.out, HMM.out, Int.toNat_natCast]; exact HS0.out) (by rw [HN.out, HMM.out, Int.toNat_natCast, Int.toNat_natCast]; exact HM0.out)
                rw [HN.out, Int.toNat_natCast] at h
                exact h
              clear Hs hlt hk HO HOB HM0 HS0
              generalize k = m at *
              go_wp2_with fail
              go_loopw [18] (fun i wr => ∃ k : Nat, k ≤ n ∧ i = .int .i64 k ∧ codeB s (two s 4) k = false ∧ g < wr.heap.size ∧ SegAt wr g s n ∧ XW w wr (two s 4) (.slice (some ⟨g, 0, none⟩) n cp) (.slice ad2 m cp2)) (fun i _ => n - (intOf i).toNat)
              case atStart => exact ⟨0, by omega, rfl, rfl, hgl, HC.out, HX.out⟩
              case round =>
                clear xb xz r0 r1 r2 f0 f1 f2 x0 x1 x2 g0 g1 g2 HX HC hgl q0 q1
                obtain ⟨k, hk, rfl, hm, hgl, hseg, hx⟩ := hrel
                have HM2 : Hid (codeB s (two s 4) k = false) := hm
                have HC : Hid (SegAt wr g s n) := hseg
                clear hm hseg
                obtain ⟨xb, xz, r0, r1, r2, f0, f1, f2, x0, x1, x2, g0, g1, g2⟩ := hx
                have HX : Hid (XW w wr (two s 4) (.slice (some ⟨g, 0, none⟩) n cp) (.slice ad2 m cp2)) := ⟨xb, xz, r0, r1, r2, f0, f1, f2, x0, x1, x2, g0, g1, g2⟩
                have q0 : w.heap.size < wr.heap.size := by omega
                have q1 : w.heap.size + 1 < wr.heap.size := by omega
                have t4 := two_bd s 4
                by_cases hlt : k < n
                · obtain ⟨c0, c1, c2, c3, c4⟩ := HC.out k hlt
                  have p0 := bt_bd s (8 + 8 * (k : Int))
                  have p2 := bt_bd s (8 + 8 * (k : Int) + 2)
                  have p4 := two_bd s (8 + 8 * (k : Int) + 6)
                  have hl : (k : Int) < (n : Int) := by omega
                  by_cases y1 : bt s (8 + 8 * (k : Int) + 2) = 1
                  rotate_left
                  · have HF : Hid (codeB s (two s 4) (k + 1) = false) := codeB_miss s _ k HM2.out (fun h => y1 h.1)
                    have d1 : (bt s (8 + 8 * (k : Int) + 2) == 1) = false := by simpa using y1
                    clear y1
                    go_wp2_with fail
                    go_roundw
                    case rel => exact ⟨k + 1, by omega, by go_num, HF.out, by simp; omega, HC.out.below hgl ((Below.refl _ _).alloc (Nat.le_refl _) _), HX.out.alloc _⟩
                    case measure => simp [intOf]; omega
                  have Y1 : Hid (bt s (8 + 8 * (k : Int) + 2) = 1) := y1
                  have d1 : (bt s (8 + 8 * (k : Int) + 2) == 1) = true := by simpa using y1
                  clear y1
                  by_cases y2 : bt s (8 + 8 * (k : Int)) * 32 ≤ two s 4
                  rotate_left
                  · have HF : Hid (codeB s (two s 4) (k + 1) = false) := codeB_miss s _ k HM2.out (fun h => y2 h.2.1)
                    have d2 : decide (bt s (8 + 8 * (k : Int)) * 32 ≤ two s 4) = false := by simpa using y2
                    go_wp2_with fail
                    go_roundw
                    case rel => exact ⟨k + 1, by omega, by go_num, HF.out, by simp; omega, HC.out.below hgl ((Below.refl _ _).alloc (Nat.le_refl _) _), HX.out.alloc _⟩
                    case measure => simp [intOf]; omega
                  by_cases y3 : two s 4 < bt s (8 + 8 * (k : Int)) * 32 + two s (8 + 8 * (k : Int) + 6)
                  rotate_left
                  · have HF : Hid (codeB s (two s 4) (k + 1) = false) := codeB_miss s _ k HM2.out (fun h => y3 h.2.2)
                    have d3 : decide (two s 4 < bt s (8 + 8 * (k : Int)) * 32 + two s (8 + 8 * (k : Int) + 6)) = false := by simpa using y3
                    go_wp2_with fail
                    go_roundw
                    case rel => exact ⟨k + 1, by omega, by go_num, HF.out, by simp; omega, HC.out.below hgl ((Below.refl _ _).alloc (Nat.le_refl _) _), HX.out.alloc _⟩
                    case measure => simp [intOf]; omega
                  have HV := vet_of_none s hs (by rw [VC.out, if_pos (codeB_hit s _ k n hlt Y1.out y2 y3)])
                  have HE : Hid (vetE s = 0) := HV.1
                  have HP : Hid (vetP s = 0) := HV.2
                  clear HV
                  go_wp2_with fail
                  refine bodyPost_ret (v := .tuple #[.agg #[.int .i64 (two s 4), .slice (some ⟨g, 0, none⟩) n cp, .slice ad2 m cp2], .int .i64 0, .int .i64 0]) (by simp [results, Tryd.results16, go_sem, r0, r1, r2, q0]) rfl ⟨_, _, _, _, _, _, _, by rw [HE.out, HP.out], ?_⟩
                  exact (HX.out.done _ _ _).alloc (by simp; omega) _
                · have hkn : k = n := by omega
                  have HV := vet_of_bad s hs 4 (by rw [VC.out, if_neg (by rw [← hkn, HM2.out]; simp)])
                  have HE : Hid (vetE s = 3) := HV.1
                  have HP : Hid (vetP s = 4) := HV.2
                  clear HV hkn
                  have dl : decide ((k : Int) < (n : Int)) = false := by simp; omega
                  have dl' : decide (k < n) = false := by simp; omega
                  go_wp2_with fail
                  refine bodyPost_ret (v := .tuple #[.agg #[.int .i64 (two s 4), .slice (some ⟨g, 0, none⟩) n cp, .slice ad2 m cp2], .int .i64 3, .int .i64 4]) (by simp [results, Tryd.results16, go_sem, r0, r1, r2]) rfl ⟨_, _, _, _, _, _, _, by rw [HE.out, HP.out], ?_⟩
                  exact HX.out.done _ _ _
end Go.Proofs.YtmendnmmiabolaaDoor
