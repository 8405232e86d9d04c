import Derived.Test.YtdjfflpjlahleaaDoorG
import Derived.Test.YtdjfflpjlahleaaDoorB
namespace Go.Proofs.YtdjfflpjlahleaaDoor
open Go.RowKit

theorem head_no (s : ByteArray) (x : Int) (hs : s.size ≤ 300) (h : headBad s = some x) (w : World) :
    Calls Tryd.prog 46 #[.string s] w fun e w' => e = .panicked (noImg x) ∧ ∃ n, w' = w.drewN n :=
  (head_any s hs w).mono fun e w' ⟨he, hb⟩ => ⟨by rw [he, h]; rfl, hb⟩
theorem head_yes (s : ByteArray) (hs : s.size ≤ 300) (h : headBad s = .none) (w : World) :
    Calls Tryd.prog 46 #[.string s] w fun e w' => e = .returned (.tuple #[]) ∧ ∃ n, w' = w.drewN n :=
  (head_any s hs w).mono fun e w' ⟨he, hb⟩ => ⟨by rw [he, h]; rfl, hb⟩
theorem segs_no (s : ByteArray) (n : Nat) (q fin x : Int) (hs : s.size ≤ 300) (hn : n ≤ 4) (hq : q = 8 + 8 * (n : Int)) (h8 : q ≤ (s.size : Int)) (h : segsBad s fin n 8 0 = some x) (w : World) :
    Calls Tryd.prog 48 #[.string s, .int .i64 q, .int .i64 fin] w fun e w' => e = .panicked (noImg x) ∧ Below w.heap.size w w' := by
  subst hq
  exact (segs_any s n fin hs hn h8 w).mono fun e w' ⟨v, he, hb, _⟩ => ⟨by rw [he, h]; rfl, hb⟩
theorem segs_yes (s : ByteArray) (n : Nat) (q fin : Int) (hs : s.size ≤ 300) (hn : n ≤ 4) (h1 : 1 ≤ n) (hq : q = 8 + 8 * (n : Int)) (h8 : q ≤ (s.size : Int)) (h : segsBad s fin n 8 0 = .none) (w : World) :
    Calls Tryd.prog 48 #[.string s, .int .i64 q, .int .i64 fin] w fun e w' => ∃ g cap, e = .returned (.slice (some ⟨g, 0, none⟩) n cap) ∧ Below w.heap.size w w' ∧ g < w'.heap.size ∧ SegAt w' g s n := by
  subst hq
  refine (segs_any s n fin hs hn h8 w).mono fun e w' ⟨v, he, hb, ho⟩ => ?_
  have hown := ho h
  have hlt := hown.lt
  rcases hown.2 with ⟨_, h0⟩ | ⟨g, cap, cur, hv, _⟩
  · omega
  · subst hv
    exact ⟨g, cap, by rw [he, h]; rfl, hb, (hlt g rfl).2, segAt_own hown⟩
theorem moves_no (s : ByteArray) (g n cap m : Nat) (q fin x : Int) (hs : s.size ≤ 300) (hn : n ≤ 4) (hm4 : m ≤ 4) (hq : 0 ≤ q) (hfin : fin = q + 4 * (m : Int)) (hz0 : fin ≤ (s.size : Int)) (h4 : ∀ k : Nat, k < n → bt s (8 + 8 * (k : Int) + 2) ≤ 4) (h : movesBad s n m q 0 = some x) (w : World) (hg : g < w.heap.size) (hc : SegAt w g s n) :
    Calls Tryd.prog 49 #[.string s, .int .i64 q, .int .i64 fin, .slice (some ⟨g, 0, none⟩) n cap] w fun e w' => e = .panicked (noImg x) ∧ Below w.heap.size w w' :=
  (moves_any s g n cap m q fin hs hn hm4 hq hfin hz0 h4 w hg hc).mono fun e w' ⟨he, hb⟩ => ⟨by rw [he, h]; rfl, hb⟩
theorem moves_yes (s : ByteArray) (g n cap m : Nat) (q fin : Int) (hs : s.size ≤ 300) (hn : n ≤ 4) (hm4 : m ≤ 4) (hq : 0 ≤ q) (hfin : fin = q + 4 * (m : Int)) (hz0 : fin ≤ (s.size : Int)) (h4 : ∀ k : Nat, k < n → bt s (8 + 8 * (k : Int) + 2) ≤ 4) (h : movesBad s n m q 0 = .none) (w : World) (hg : g < w.heap.size) (hc : SegAt w g s n) :
    Calls Tryd.prog 49 #[.string s, .int .i64 q, .int .i64 fin, .slice (some ⟨g, 0, none⟩) n cap] w fun e w' => e = .returned (.tuple #[]) ∧ Below w.heap.size w w' :=
  (moves_any s g n cap m q fin hs hn hm4 hq hfin hz0 h4 w hg hc).mono fun e w' ⟨he, hb⟩ => ⟨by rw [he, h]; rfl, hb⟩

/-- What a head that stands says. -/
theorem head_says (s : ByteArray) (h : headBad s = .none) : 8 ≤ (s.size : Int) ∧ 1 ≤ bt s 6 ∧ bt s 6 ≤ 4 ∧ 0 ≤ bt s 7 ∧ bt s 7 ≤ 4 := by
  have h7 := bt_bd s 7
  unfold headBad at h
  cases hm : magicBad s 4 0 with
  | some x => rw [hm] at h; cases h
  | none =>
    rw [hm] at h
    simp only at h
    by_cases a : (s.size : Int) < 8
    · rw [if_pos a] at h; cases h
    rw [if_neg a] at h
    by_cases b : bt s 6 < 1 ∨ 4 < bt s 6
    · rw [if_pos b] at h; cases h
    rw [if_neg b] at h
    by_cases c : 4 < bt s 7
    · rw [if_pos c] at h; cases h
    omega

set_option maxRecDepth 100000 in
set_option maxHeartbeats 2000000 in
theorem image_any (s : ByteArray) (hs : s.size ≤ 300) (w : World) :
    Calls Tryd.prog 29 #[.string s] w fun e w' => e = outc (vetBad s) (.tuple #[]) ∧ Below w.heap.size w w' := by
  cases hH : headBad s with
  | some x =>
    have HV : Hid (vetBad s = some x) := by show vetBad s = _; unfold vetBad; rw [hH]
    have HH : Hid (headBad s = some x) := hH
    clear hH
    go_enter Tryd.func29, Tryd.ntmps29
    go_wp2_with (go_at_call 46; refine (head_no s x hs HH.out _).mono ?_; rintro e w1 ⟨rfl, nq, rfl⟩)
    exact ⟨rfl, by rw [HV.out]; rfl, below_drewN (Below.refl _ _) _⟩
  | none =>
    obtain ⟨l8, n1, n4, m0, m4⟩ := head_says s hH
    have HH : Hid (headBad s = .none) := hH
    have l6 : 6 < s.size := by omega
    have l7 : 7 < s.size := by omega
    have L6 : (6 : Int) < (s.size : Int) := by omega
    have L7 : (7 : Int) < (s.size : Int) := by omega
    have g6 : ((s[6]'l6).toNat : Int) = bt s 6 := bt_nat s 6 l6
    have g7 : ((s[7]'l7).toNat : Int) = bt s 7 := bt_nat s 7 l7
    by_cases hL : (s.size : Int) < 8 + 8 * bt s 6 + 4 * bt s 7
    · have HV : Hid (vetBad s = some (s.size : Int)) := by show vetBad s = _; unfold vetBad; rw [hH]; simp only; rw [if_pos hL]
      clear hH
      have d1 : decide (8 + bt s 6 * 8 + bt s 7 * 4 ≤ (s.size : Int)) = false := by simp; omega
      go_enter Tryd.func29, Tryd.ntmps29
      go_wp2_with (first
        | (go_at_call 46; refine (head_yes s hs HH.out _).mono ?_; rintro e w1 ⟨rfl, nq, rfl⟩)
        | (go_at_call_of 47 (Value.bool false); refine (demand_no _ _).mono ?_; rintro e w' ⟨rfl, rfl⟩))
      exact ⟨rfl, by rw [HV.out]; rfl, below_drewN (Below.refl _ _) _⟩
    · have d1 : decide (8 + bt s 6 * 8 + bt s 7 * 4 ≤ (s.size : Int)) = true := by simp; omega
      have V1 : vetBad s = match segsBad s (8 + 8 * bt s 6 + 4 * bt s 7) (bt s 6).toNat 8 0 with
        | .some x => .some x
        | .none => match movesBad s (bt s 6).toNat (bt s 7).toNat (8 + 8 * bt s 6) 0 with
          | .some x => .some x
          | .none => if codeB s (two s 4) (bt s 6).toNat = true then .none else some 4 := by
        unfold vetBad; rw [hH]; simp only; rw [if_neg hL]; rfl
      clear hH
      rw [show 8 + 8 * bt s 6 + 4 * bt s 7 = 8 + bt s 6 * 8 + bt s 7 * 4 from by omega, show 8 + 8 * bt s 6 = 8 + bt s 6 * 8 from by omega] at V1
      cases hS : segsBad s (8 + bt s 6 * 8 + bt s 7 * 4) (bt s 6).toNat 8 0 with
      | some x =>
        have HV : Hid (vetBad s = some x) := by show vetBad s = _; rw [V1, hS]
        have HS : Hid (segsBad s (8 + bt s 6 * 8 + bt s 7 * 4) (bt s 6).toNat 8 0 = some x) := hS
        clear V1 hS
        go_enter Tryd.func29, Tryd.ntmps29
        go_wp2_with (first
          | (go_at_call 46; refine (head_yes s hs HH.out _).mono ?_; rintro e w1 ⟨rfl, nq, rfl⟩)
          | (go_at_call_of 47 (Value.bool true); refine (demand_yes _ _).mono ?_; rintro e w' ⟨rfl, rfl⟩)
          | (go_at_call 48; refine (segs_no s (bt s 6).toNat _ _ x hs (by omega) (by omega) (by omega) HS.out _).mono ?_; rintro e w2 ⟨rfl, hb2⟩))
        exact ⟨rfl, by rw [HV.out]; rfl, (below_drewN (Below.refl _ _) _).trans hb2⟩
      | none =>
        rw [hS] at V1
        simp only at V1
        have HS : Hid (segsBad s (8 + bt s 6 * 8 + bt s 7 * 4) (bt s 6).toNat 8 0 = .none) := hS
        have H4 : Hid (∀ k : Nat, k < (bt s 6).toNat → bt s (8 + 8 * (k : Int) + 2) ≤ 4) := segs_good s _ _ 8 0 hS
        clear hS
        cases hM : movesBad s (bt s 6).toNat (bt s 7).toNat (8 + bt s 6 * 8) 0 with
        | some x =>
          have HV : Hid (vetBad s = some x) := by show vetBad s = _; rw [V1, hM]
          have HM : Hid (movesBad s (bt s 6).toNat (bt s 7).toNat (8 + bt s 6 * 8) 0 = some x) := hM
          clear V1 hM
          go_enter Tryd.func29, Tryd.ntmps29
          go_wp2_with (first
            | (go_at_call 46; refine (head_yes s hs HH.out _).mono ?_; rintro e w1 ⟨rfl, nq, rfl⟩)
            | (go_at_call_of 47 (Value.bool true); refine (demand_yes _ _).mono ?_; rintro e w' ⟨rfl, rfl⟩)
            | (go_at_call 48; refine (segs_yes s (bt s 6).toNat _ _ hs (by omega) (by omega) (by omega) (by omega) HS.out _).mono ?_; rintro e w2 ⟨g, cap, rfl, hb2, hg, hseg⟩; have HC : Hid (SegAt w2 g s (bt s 6).toNat) := hseg; clear hseg)
            | (go_at_call 49; refine (moves_no s g (bt s 6).toNat cap (bt s 7).toNat _ _ x hs (by omega) (by omega) (by omega) (by omega) (by omega) H4.out HM.out _ hg HC.out).mono ?_; rintro e w3 ⟨rfl, hb3⟩))
          exact ⟨rfl, by rw [HV.out]; rfl, ((below_drewN (Below.refl _ _) _).trans hb2).trans (hb3.mono hb2.size)⟩
        | none =>
          rw [hM] at V1
          simp only at V1
          have HM : Hid (movesBad s (bt s 6).toNat (bt s 7).toNat (8 + bt s 6 * 8) 0 = .none) := hM
          clear hM
          have t4 := two_bd s 4
          cases hC : codeB s (two s 4) (bt s 6).toNat with
          | true =>
            have HV : Hid (vetBad s = .none) := by show vetBad s = _; rw [V1, hC]; rfl
            clear V1
            go_enter Tryd.func29, Tryd.ntmps29
            go_wp2_with (first
              | (go_at_call 46; refine (head_yes s hs HH.out _).mono ?_; rintro e w1 ⟨rfl, nq, rfl⟩)
              | (go_at_call_of 47 (Value.bool true); refine (demand_yes _ _).mono ?_; rintro e w' ⟨rfl, rfl⟩)
              | (go_at_call 48; refine (segs_yes s (bt s 6).toNat _ _ hs (by omega) (by omega) (by omega) (by omega) HS.out _).mono ?_; rintro e w2 ⟨g, cap, rfl, hb2, hg, hseg⟩; have HC : Hid (SegAt w2 g s (bt s 6).toNat) := hseg; clear hseg)
              | (go_at_call 49; refine (moves_yes s g (bt s 6).toNat cap (bt s 7).toNat _ _ hs (by omega) (by omega) (by omega) (by omega) (by omega) H4.out HM.out _ hg HC.out).mono ?_; rintro e w3 ⟨rfl, hb3⟩)
              | (go_at_call 51; refine (number_any s 4 hs (by omega) (by omega) _).mono ?_; rintro e w4 ⟨rfl, nr, rfl⟩)
              | (go_at_call 50; refine (isCode_any s g (bt s 6).toNat cap _ t4 (by omega) _ (by have := hb3.size; simp; omega) (HC.out.below hg (below_drewN hb3 nr))).mono ?_; rintro e w5 ⟨rfl, hb5⟩))
            go_end0
            exact ⟨by rw [HV.out]; rfl, (below_drewN (((below_drewN (Below.refl _ _) _).trans hb2).trans (hb3.mono hb2.size)) nr).trans (hb5.mono (by have := hb3.size; have := hb2.size; simp at *; omega))⟩
          | false =>
            have HV : Hid (vetBad s = some 4) := by show vetBad s = _; rw [V1, hC]; rfl
            clear V1
            go_enter Tryd.func29, Tryd.ntmps29
            go_wp2_with (first
              | (go_at_call 46; refine (head_yes s hs HH.out _).mono ?_; rintro e w1 ⟨rfl, nq, rfl⟩)
              | (go_at_call_of 47 (Value.bool true); refine (demand_yes _ _).mono ?_; rintro e w' ⟨rfl, rfl⟩)
              | (go_at_call_of 47 (Value.bool false); refine (demand_no _ _).mono ?_; rintro e w' ⟨rfl, rfl⟩)
              | (go_at_call 48; refine (segs_yes s (bt s 6).toNat _ _ hs (by omega) (by omega) (by omega) (by omega) HS.out _).mono ?_; rintro e w2 ⟨g, cap, rfl, hb2, hg, hseg⟩; have HC : Hid (SegAt w2 g s (bt s 6).toNat) := hseg; clear hseg)
              | (go_at_call 49; refine (moves_yes s g (bt s 6).toNat cap (bt s 7).toNat _ _ hs (by omega) (by omega) (by omega) (by omega) (by omega) H4.out HM.out _ hg HC.out).mono ?_; rintro e w3 ⟨rfl, hb3⟩)
              | (go_at_call 51; refine (number_any s 4 hs (by omega) (by omega) _).mono ?_; rintro e w4 ⟨rfl, nr, rfl⟩)
              | (go_at_call 50; refine (isCode_any s g (bt s 6).toNat cap _ t4 (by omega) _ (by have := hb3.size; simp; omega) (HC.out.below hg (below_drewN hb3 nr))).mono ?_; rintro e w5 ⟨rfl, hb5⟩))
            exact ⟨rfl, by rw [HV.out]; rfl, (below_drewN (((below_drewN (Below.refl _ _) _).trans hb2).trans (hb3.mono hb2.size)) nr).trans (hb5.mono (by have := hb3.size; have := hb2.size; simp at *; omega))⟩
end Go.Proofs.YtdjfflpjlahleaaDoor
