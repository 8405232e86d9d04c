import Derived.Test.YtdjfflpjlahleaaDoorF
import Derived.Test.YtdjfflpjlahleaaDoorC
namespace Go.Proofs.YtdjfflpjlahleaaDoor
open Go.RowKit

theorem segs_good (s : ByteArray) (fin : Int) : ∀ (n : Nat) (p last : Int), segsBad s fin n p last = .none → ∀ k : Nat, k < n → bt s (p + 8 * (k : Int) + 2) ≤ 4
  | 0, _, _, _, k, hk => by omega
  | n + 1, p, last, h, k, hk => by
    rw [segsBad] at h
    cases hB : segBad s p last fin with
    | some x => rw [hB] at h; cases h
    | none =>
      rw [hB] at h
      match k, hk with
      | 0, _ =>
        have hc := seg_cases s p last fin
        rw [hB] at hc
        simp only [reduceCtorEq, and_false, false_or, and_true] at hc
        simp only [Int.natCast_zero, Int.mul_zero, Int.add_zero]
        omega
      | k + 1, hk =>
        have := segs_good s fin n (p + 8) _ h k (by omega)
        rw [show p + 8 * ((k + 1 : Nat) : Int) + 2 = p + 8 + 8 * (k : Int) + 2 from by omega]
        exact this

/-- Where the move ahead of the k-th ends. -/
def mvEnd (s : ByteArray) (q : Int) : Nat → Int
  | 0 => 0
  | k + 1 => two s (q + 4 * (k : Int)) + 2

theorem moves_next (s : ByteArray) (n m : Nat) (p last : Int) (h1 : last ≤ two s p) (h2 : movB s (two s p) n = true) : movesBad s n (m + 1) p last = movesBad s n m (p + 4) (two s p + 2) := by
  rw [movesBad, if_pos ⟨h1, h2⟩]
theorem moves_stop (s : ByteArray) (n m : Nat) (p last : Int) (h : ¬ (last ≤ two s p ∧ movB s (two s p) n = true)) : movesBad s n (m + 1) p last = some p := by
  rw [movesBad, if_neg h]
theorem mvEnd_bd (s : ByteArray) (q : Int) (k : Nat) : 0 ≤ mvEnd s q k ∧ mvEnd s q k ≤ 65537 := by
  cases k with
  | zero => exact ⟨by simp [mvEnd], by simp [mvEnd]⟩
  | succ k => have := two_bd s (q + 4 * (k : Int)); simp only [mvEnd]; omega

set_option maxRecDepth 100000 in
set_option maxHeartbeats 2000000 in
theorem moves_any (s : ByteArray) (g n cap m : Nat) (q fin : Int) (hs : s.size ≤ 300) (hn : n ≤ 4) (hm4 : m ≤ 4) (hq : 0 ≤ q) (hfin : fin = q + 4 * (m : Int)) (hz0 : fin ≤ (s.size : Int)) (h4 : ∀ k : Nat, k < n → bt s (8 + 8 * (k : Int) + 2) ≤ 4) (w : World) (hg : g < w.heap.size) (hc : SegAt w g s n) :
    Calls Tryd.prog 49 #[.string s, .int .i64 q, .int .i64 fin, .slice (some ⟨g, 0, none⟩) n cap] w fun e w' => e = outc (movesBad s n m q 0) (.tuple #[]) ∧ Below w.heap.size w w' := by
  subst hfin
  have H4 : Hid (∀ k : Nat, k < n → bt s (8 + 8 * (k : Int) + 2) ≤ 4) := h4
  have HC : Hid (SegAt w g s n) := hc
  clear h4 hc
  go_enter Tryd.func49, Tryd.ntmps49
  go_wp2
  go_loopw [8, 9] (fun l a wr => ∃ k : Nat, k ≤ m ∧ a = .int .i64 (q + 4 * (k : Int)) ∧ l = .int .i64 (mvEnd s q k) ∧ movesBad s n m q 0 = movesBad s n (m - k) (q + 4 * (k : Int)) (mvEnd s q k) ∧ Below w.heap.size w wr) (fun _ a _ => (q + 4 * (m : Int) - intOf a).toNat)
  case atStart => exact ⟨0, by omega, by simp, rfl, by simp [mvEnd], Below.refl _ _⟩
  case round =>
    obtain ⟨k, hk, rfl, rfl, hm, hbel⟩ := hrel
    have HM : Hid (movesBad s n m q 0 = movesBad s n (m - k) (q + 4 * (k : Int)) (mvEnd s q k)) := hm
    clear hm
    by_cases hlt : k < m
    · have h1 : q + 4 * (k : Int) < q + 4 * (m : Int) := by omega
      have t0 := two_bd s (q + 4 * (k : Int))
      have t1 := mvEnd_bd s q k
      have hz := hbel.size
      by_cases x1 : mvEnd s q k ≤ two s (q + 4 * (k : Int))
      · cases hx : movB s (two s (q + 4 * (k : Int))) n with
        | true =>
          have HX : Hid (movB s (two s (q + 4 * (k : Int))) n = true) := hx
          go_wp2_with (first
            | (go_at_call 51; refine (number_any s _ hs (by omega) (by omega) _).mono ?_; rintro e w1 ⟨rfl, nq, rfl⟩)
            | (go_at_call 62; refine (isMovable_any s g n cap _ t0 hn H4.out _ (by simp; omega) (HC.out.below hg (below_drewN hbel nq))).mono ?_; rintro e w2 ⟨rfl, hb2⟩)
            | (go_at_call_of 47 (Value.bool true); refine (demand_yes _ _).mono ?_; rintro e w' ⟨rfl, rfl⟩))
          go_roundw
          case rel =>
            refine ⟨k + 1, by omega, by go_num, rfl, ?_, (below_drewN hbel nq).trans (hb2.mono (by simp; omega))⟩
            rw [HM.out, show m - k = (m - (k + 1)) + 1 from by omega, moves_next _ _ _ _ _ x1 HX.out]
            rw [show q + 4 * ((k + 1 : Nat) : Int) = q + 4 * (k : Int) + 4 from by omega]
            rfl
          case measure => simp [intOf]; omega
        | false =>
          have HF : Hid (movesBad s n m q 0 = some (q + 4 * (k : Int))) := by
            show movesBad s n m q 0 = _
            rw [HM.out, show m - k = (m - (k + 1)) + 1 from by omega]
            exact moves_stop _ _ _ _ _ (fun h => by rw [hx] at h; exact absurd h.2 (by simp))
          go_wp2_with (first
            | (go_at_call 51; refine (number_any s _ hs (by omega) (by omega) _).mono ?_; rintro e w1 ⟨rfl, nq, rfl⟩)
            | (go_at_call 62; refine (isMovable_any s g n cap _ t0 hn H4.out _ (by simp; omega) (HC.out.below hg (below_drewN hbel nq))).mono ?_; rintro e w2 ⟨rfl, hb2⟩)
            | (go_at_call_of 47 (Value.bool false); refine (demand_no _ _).mono ?_; rintro e w' ⟨rfl, rfl⟩))
          exact ⟨rfl, by rw [HF.out]; rfl, (below_drewN hbel nq).trans (hb2.mono (by simp; omega))⟩
      · have HF : Hid (movesBad s n m q 0 = some (q + 4 * (k : Int))) := by
          show movesBad s n m q 0 = _
          rw [HM.out, show m - k = (m - (k + 1)) + 1 from by omega]
          exact moves_stop _ _ _ _ _ (fun h => x1 h.1)
        have d1 : decide (mvEnd s q k ≤ two s (q + 4 * (k : Int))) = false := by simpa using x1
        go_wp2_with (first
          | (go_at_call 51; refine (number_any s _ hs (by omega) (by omega) _).mono ?_; rintro e w1 ⟨rfl, nq, rfl⟩)
          | (go_at_call_of 47 (Value.bool false); refine (demand_no _ _).mono ?_; rintro e w' ⟨rfl, rfl⟩))
        exact ⟨rfl, by rw [HF.out]; rfl, below_drewN hbel nq⟩
    · have hkn : k = m := by omega
      subst hkn
      have HF : Hid (movesBad s n k q 0 = .none) := by
        show movesBad s n k q 0 = _
        rw [HM.out, Nat.sub_self]; rfl
      clear HM
      go_wp2
      go_end0
      exact ⟨by rw [HF.out]; rfl, hbel⟩
end Go.Proofs.YtdjfflpjlahleaaDoor
