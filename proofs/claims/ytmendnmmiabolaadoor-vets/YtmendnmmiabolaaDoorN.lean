import Derived.Test.YtmendnmmiabolaaDoorQ
import Derived.Test.YtmendnmmiabolaaDoorC
namespace Go.Proofs.YtmendnmmiabolaaDoor
open Go.RowKit

theorem segs_good (s : ByteArray) (fin : Int) : ∀ (n : Nat) (p last : Int), segsBad s fin n p last = .none → ∀ k : Nat, k < n → bt s (p + 8 * (k : Int) + 2) ≤ 4
  | 0, _, _, _, k, hk => by omega
  | n + 1, p, last, h, k, hk => by
    rw [segsBad] at h
    cases hB : segBad s p last fin with
    | some x => rw [hB] at h; cases h
    | none =>
      rw [hB] at h
      match k, hk with
      | 0, _ =>
        have hc := seg_cases s p last fin
        rw [hB] at hc
        simp only [reduceCtorEq, and_false, false_or, and_true] at hc
        simp only [Int.natCast_zero, Int.mul_zero, Int.add_zero]
        omega
      | k + 1, hk =>
        have := segs_good s fin n (p + 8) _ h k (by omega)
        rw [show p + 8 * ((k + 1 : Nat) : Int) + 2 = p + 8 + 8 * (k : Int) + 2 from by omega]
        exact this

/-- Where the move ahead of the k-th ends. -/
def mvEnd (s : ByteArray) (q : Int) : Nat → Int
  | 0 => 0
  | k + 1 => two s (q + 4 * (k : Int)) + 2

theorem moves_next (s : ByteArray) (n m : Nat) (p last : Int) (h1 : last ≤ two s p) (h2 : movB s (two s p) n = true) : movesBad s n (m + 1) p last = movesBad s n m (p + 4) (two s p + 2) := by
  rw [movesBad, if_pos ⟨h1, h2⟩]
theorem moves_stop (s : ByteArray) (n m : Nat) (p last : Int) (h : ¬ (last ≤ two s p ∧ movB s (two s p) n = true)) : movesBad s n (m + 1) p last = some p := by
  rw [movesBad, if_neg h]
theorem mvEnd_bd (s : ByteArray) (q : Int) (k : Nat) : 0 ≤ mvEnd s q k ∧ mvEnd s q k ≤ 65537 := by
  cases k with
  | zero => exact ⟨by simp [mvEnd], by simp [mvEnd]⟩
  | succ k => have := two_bd s (q + 4 * (k : Int)); simp only [mvEnd]; omega

set_option maxRecDepth 100000 in
set_option maxHeartbeats 2000000 in
theorem moves_any (s : ByteArray) (g n cap : Nat) (ad2 : Option Addr) (m c2 : Nat) (q x : Int) (hn : n ≤ 4) (hm4 : m ≤ 4) (hq : 0 ≤ q ∧ q ≤ 100) (h4 : ∀ k : Nat, k < n → bt s (8 + 8 * (k : Int) + 2) ≤ 4) (w : World) (hg : g < w.heap.size) (hc : SgAt w g s n) (hv : MvAt w ad2 s q m) :
    Calls Tryd.prog 51 #[.agg #[.slice (some ⟨g, 0, none⟩) n cap, .slice ad2 m c2, .int .i64 x], .int .i64 q] w fun e w' => e = outc (movesBad s n m q 0) (.tuple #[]) ∧ Below w.heap.size w w' := by
  have H4 : Hid (∀ k : Nat, k < n → bt s (8 + 8 * (k : Int) + 2) ≤ 4) := h4
  have HC : Hid (SgAt w g s n) := hc
  have HV : Hid (MvAt w ad2 s q m) := hv
  clear h4 hc hv
  go_enter Tryd.func51, Tryd.ntmps51
  go_wp2
  go_loopw [4, 11] (fun l i wr => ∃ k : Nat, k ≤ m ∧ i = .int .i64 k ∧ l = .int .i64 (mvEnd s q k) ∧ movesBad s n m q 0 = movesBad s n (m - k) (q + 4 * (k : Int)) (mvEnd s q k) ∧ Below (w.heap.size + 1) (w.alloc (.cells #[.slice (some ⟨g, 0, none⟩) n cap, .slice ad2 m c2, .int .i64 x] 98)) wr) (fun _ i _ => m - (intOf i).toNat)
  case atStart =>
    exact ⟨0, by omega, rfl, rfl, by simp [mvEnd], Below.refl _ _⟩
  case round =>
    obtain ⟨k, hk, rfl, rfl, hm, hbel⟩ := hrel
    have HM : Hid (movesBad s n m q 0 = movesBad s n (m - k) (q + 4 * (k : Int)) (mvEnd s q k)) := hm
    clear hm
    have HBW : Hid (Below w.heap.size w wr) := ((Below.refl _ _).alloc (Nat.le_refl _) _).trans (hbel.mono (Nat.le_succ _))
    by_cases hlt : k < m
    · obtain ⟨g2, rfl, hg2, hcm⟩ : ∃ g2, ad2 = some ⟨g2, 0, none⟩ ∧ g2 < wr.heap.size ∧ ∀ k : Nat, k < m → wr.cell? ⟨g2, k * 2, none⟩ = some (.int .i64 (two s (q + 4 * (k : Int)))) ∧ wr.cell? ⟨g2, k * 2 + 1, none⟩ = some (.int .i64 (two s (q + 4 * (k : Int) + 2))) := by
        rcases (HV.out.below HBW.out) with h0 | h
        · omega
        · exact h
      obtain ⟨v0, v1⟩ := hcm k hlt
      clear hcm
      have l0 : wr.cell? ⟨w.heap.size, 0, none⟩ = some (.slice (some ⟨g, 0, none⟩) n cap) := (hbel.cell (p := ⟨w.heap.size, 0, none⟩) (Nat.lt_succ_self _)).trans (by simp [go_sem])
      have h1 : (k : Int) < (m : Int) := by omega
      have hat : q + (k : Int) * 4 = q + 4 * (k : Int) := by omega
      have t0 := two_bd s (q + 4 * (k : Int))
      have t2 := two_bd s (q + 4 * (k : Int) + 2)
      have t1 := mvEnd_bd s q k
      have hz := hbel.size
      have hz2 := HBW.out.size
      simp at hz
      have hq0 : w.heap.size < wr.heap.size := by omega
      by_cases x1 : mvEnd s q k ≤ two s (q + 4 * (k : Int))
      · cases hx : movB s (two s (q + 4 * (k : Int))) n with
        | true =>
          have HX : Hid (movB s (two s (q + 4 * (k : Int))) n = true) := hx
          go_wp2_with (first
            | (go_at_call 65; refine (isMovable_any s g n cap _ t0 hn H4.out _ (by simp; omega) (HC.out.below hg (HBW.out.alloc hz2 _))).mono ?_; rintro e w2 ⟨rfl, hb2⟩; obtain ⟨hcc, hff⟩ := bcell hb2)
            | (go_at_call_of 47 (Value.bool true); refine (demand_yes _ _).mono ?_; rintro e w' ⟨rfl, rfl⟩))
          go_roundw
          case rel =>
            refine ⟨k + 1, by omega, by go_num, rfl, ?_, (hbel.alloc (by omega) _).trans (hb2.mono (by simp; omega))⟩
            rw [HM.out, show m - k = (m - (k + 1)) + 1 from by omega, moves_next _ _ _ _ _ x1 HX.out]
            rw [show q + 4 * ((k + 1 : Nat) : Int) = q + 4 * (k : Int) + 4 from by omega]
            rfl
          case measure => simp [intOf]; omega
        | false =>
          have HF : Hid (movesBad s n m q 0 = some (q + 4 * (k : Int))) := by
            show movesBad s n m q 0 = _
            rw [HM.out, show m - k = (m - (k + 1)) + 1 from by omega]
            exact moves_stop _ _ _ _ _ (fun h => by rw [hx] at h; exact absurd h.2 (by simp))
          go_wp2_with (first
            | (go_at_call 65; refine (isMovable_any s g n cap _ t0 hn H4.out _ (by simp; omega) (HC.out.below hg (HBW.out.alloc hz2 _))).mono ?_; rintro e w2 ⟨rfl, hb2⟩; obtain ⟨hcc, hff⟩ := bcell hb2)
            | (go_at_call_of 47 (Value.bool false); refine (demand_no _ _).mono ?_; rintro e w' ⟨rfl, rfl⟩))
          exact ⟨rfl, by rw [HF.out]; rfl, (HBW.out.alloc (by omega) _).trans (hb2.mono (by simp; omega))⟩
      · have HF : Hid (movesBad s n m q 0 = some (q + 4 * (k : Int))) := by
          show movesBad s n m q 0 = _
          rw [HM.out, show m - k = (m - (k + 1)) + 1 from by omega]
          exact moves_stop _ _ _ _ _ (fun h => x1 h.1)
        have d1 : decide (mvEnd s q k ≤ two s (q + 4 * (k : Int))) = false := by simpa using x1
        go_wp2_with (first
          | (go_at_call_of 47 (Value.bool false); refine (demand_no _ _).mono ?_; rintro e w' ⟨rfl, rfl⟩))
        exact ⟨rfl, by rw [HF.out]; rfl, HBW.out.alloc (by omega) _⟩
    · have hkn : k = m := by omega
      subst hkn
      have HF : Hid (movesBad s n k q 0 = .none) := by
        show movesBad s n k q 0 = _
        rw [HM.out, Nat.sub_self]; rfl
      clear HM
      go_wp2
      go_end0
      exact ⟨by rw [HF.out]; rfl, HBW.out⟩
end Go.Proofs.YtmendnmmiabolaaDoor
