import Derived.Test.YtmendnmmiabolaaDoorP
namespace Go.Proofs.YtmendnmmiabolaaDoor
open Go.RowKit

set_option maxRecDepth 100000 in
set_option maxHeartbeats 1000000 in
theorem isCode_any (s : ByteArray) (g n cap : Nat) (a : Int) (ha : 0 ≤ a ∧ a ≤ 65535) (hn : n ≤ 4) (w : World) (hg : g < w.heap.size) (hc : SgAt w g s n) :
    Calls Tryd.prog 53 #[.slice (some ⟨g, 0, none⟩) n cap, .int .i64 a] w fun e w' => e = .returned (.bool (codeB s a n)) ∧ Below w.heap.size w w' := by
  go_enter Tryd.func53, Tryd.ntmps53
  go_wp2
  go_loopw [10] (fun i wr => ∃ k : Nat, k ≤ n ∧ i = .int .i64 k ∧ codeB s a k = false ∧ Below w.heap.size w wr) (fun i _ => n - (intOf i).toNat)
  case atStart => exact ⟨0, by omega, rfl, rfl, Below.refl _ _⟩
  case round =>
    obtain ⟨k, hk, rfl, hm, hbel⟩ := hrel
    have HM : Hid (codeB s a k = false) := hm
    clear hm
    by_cases hlt : k < n
    · obtain ⟨c0, c1, c2, c3, c4, c5⟩ := hc.below hg hbel k hlt
      have q0 := bt_bd s (8 + 8 * (k : Int))
      have q1 := bt_bd s (8 + 8 * (k : Int) + 1)
      have q2 := bt_bd s (8 + 8 * (k : Int) + 2)
      have q4 := two_bd s (8 + 8 * (k : Int) + 6)
      have hz := hbel.size
      have hl : (k : Int) < (n : Int) := by omega
      have HC : Hid (SgAt w g s n) := hc
      clear hc
      by_cases x1 : bt s (8 + 8 * (k : Int) + 2) = 1
      · have X1 : Hid (bt s (8 + 8 * (k : Int) + 2) = 1) := x1
        have d1 : (bt s (8 + 8 * (k : Int) + 2) == 1) = true := by simpa using x1
        clear x1
        by_cases x2 : bt s (8 + 8 * (k : Int)) * 32 ≤ a
        · by_cases x3 : a < bt s (8 + 8 * (k : Int)) * 32 + two s (8 + 8 * (k : Int) + 6)
          · have HF : Hid (codeB s a n = true) := codeB_hit s a k n hlt X1.out x2 x3
            go_wp2
            go_ret
            exact ⟨by rw [HF.out]; rfl, hbel.alloc hz _⟩
          · have HF : Hid (codeB s a (k + 1) = false) := codeB_miss s a k HM.out (fun h => x3 h.2.2)
            have d3 : decide (a < bt s (8 + 8 * (k : Int)) * 32 + two s (8 + 8 * (k : Int) + 6)) = false := by simpa using x3
            go_wp2
            go_roundw
            case rel => exact ⟨k + 1, by omega, by go_num, HF.out, hbel.alloc hz _⟩
            case measure => simp [intOf]; omega
        · have HF : Hid (codeB s a (k + 1) = false) := codeB_miss s a k HM.out (fun h => x2 h.2.1)
          have d2 : decide (bt s (8 + 8 * (k : Int)) * 32 ≤ a) = false := by simpa using x2
          go_wp2
          go_roundw
          case rel => exact ⟨k + 1, by omega, by go_num, HF.out, hbel.alloc hz _⟩
          case measure => simp [intOf]; omega
      · have HF : Hid (codeB s a (k + 1) = false) := codeB_miss s a k HM.out (fun h => x1 h.1)
        have d1 : (bt s (8 + 8 * (k : Int) + 2) == 1) = false := by simpa using x1
        clear x1
        go_wp2
        go_roundw
        case rel => exact ⟨k + 1, by omega, by go_num, HF.out, hbel.alloc hz _⟩
        case measure => simp [intOf]; omega
    · have hkn : k = n := by omega
      subst hkn
      go_wp2
      go_ret
      exact ⟨by rw [HM.out]; rfl, hbel⟩

set_option maxRecDepth 100000 in
set_option maxHeartbeats 2000000 in
theorem isMovable_any (s : ByteArray) (g n cap : Nat) (a : Int) (ha : 0 ≤ a ∧ a ≤ 65535) (hn : n ≤ 4) (h4 : ∀ k : Nat, k < n → bt s (8 + 8 * (k : Int) + 2) ≤ 4) (w : World) (hg : g < w.heap.size) (hc : SgAt w g s n) :
    Calls Tryd.prog 65 #[.slice (some ⟨g, 0, none⟩) n cap, .int .i64 a] w fun e w' => e = .returned (.bool (movB s a n)) ∧ Below w.heap.size w w' := by
  have H4 : Hid (∀ k : Nat, k < n → bt s (8 + 8 * (k : Int) + 2) ≤ 4) := h4
  clear h4
  go_enter Tryd.func65, Tryd.ntmps65
  go_wp2
  go_loopw [10] (fun i wr => ∃ k : Nat, k ≤ n ∧ i = .int .i64 k ∧ movB s a k = false ∧ Below w.heap.size w wr) (fun i _ => n - (intOf i).toNat)
  case atStart => exact ⟨0, by omega, rfl, rfl, Below.refl _ _⟩
  case round =>
    obtain ⟨k, hk, rfl, hm, hbel⟩ := hrel
    have HM : Hid (movB s a k = false) := hm
    clear hm
    by_cases hlt : k < n
    · obtain ⟨c0, c1, c2, c3, c4, c5⟩ := hc.below hg hbel k hlt
      have q0 := bt_bd s (8 + 8 * (k : Int))
      have q1 := bt_bd s (8 + 8 * (k : Int) + 1)
      have q2 := bt_bd s (8 + 8 * (k : Int) + 2)
      have q3 := H4.out k hlt
      have hz := hbel.size
      have hl : (k : Int) < (n : Int) := by omega
      have HC : Hid (SgAt w g s n) := hc
      clear hc
      by_cases x1 : 3 ≤ bt s (8 + 8 * (k : Int) + 2)
      · have dd : (bt s (8 + 8 * (k : Int) + 2) == 3) = true ∨ ((bt s (8 + 8 * (k : Int) + 2) == 3) = false ∧ (bt s (8 + 8 * (k : Int) + 2) == 4) = true) := by
          by_cases e3 : bt s (8 + 8 * (k : Int) + 2) = 3
          · exact .inl (by simpa using e3)
          · exact .inr ⟨by simpa using e3, by simp; omega⟩
        by_cases x2 : bt s (8 + 8 * (k : Int)) * 32 ≤ a
        · by_cases x3 : a + 2 ≤ (bt s (8 + 8 * (k : Int)) + bt s (8 + 8 * (k : Int) + 1)) * 32
          · have HF : Hid (movB s a n = true) := movB_hit s a k n hlt x1 x2 x3
            rcases dd with dd | ⟨d1, dd⟩
            all_goals
              go_wp2_with (go_at_call 64; refine (end_any _ _ _ _ _ _ _ q0 q1).mono ?_; rintro e w3 ⟨rfl, hb3⟩)
              go_ret
              exact ⟨by rw [HF.out]; rfl, (hbel.alloc hz _).trans (hb3.mono (by simp; omega))⟩
          · have HF : Hid (movB s a (k + 1) = false) := movB_miss s a k HM.out (fun h => x3 h.2.2)
            have d3 : decide (a + 2 ≤ (bt s (8 + 8 * (k : Int)) + bt s (8 + 8 * (k : Int) + 1)) * 32) = false := by simpa using x3
            rcases dd with dd | ⟨d1, dd⟩
            all_goals
              go_wp2_with (go_at_call 64; refine (end_any _ _ _ _ _ _ _ q0 q1).mono ?_; rintro e w3 ⟨rfl, hb3⟩)
              go_roundw
              case rel => exact ⟨k + 1, by omega, by go_num, HF.out, (hbel.alloc hz _).trans (hb3.mono (by simp; omega))⟩
              case measure => simp [intOf]; omega
        · have HF : Hid (movB s a (k + 1) = false) := movB_miss s a k HM.out (fun h => x2 h.2.1)
          have d2 : decide (bt s (8 + 8 * (k : Int)) * 32 ≤ a) = false := by simpa using x2
          rcases dd with dd | ⟨d1, dd⟩
          all_goals
            go_wp2
            go_roundw
            case rel => exact ⟨k + 1, by omega, by go_num, HF.out, hbel.alloc hz _⟩
            case measure => simp [intOf]; omega
      · have HF : Hid (movB s a (k + 1) = false) := movB_miss s a k HM.out (fun h => x1 h.1)
        have d1 : (bt s (8 + 8 * (k : Int) + 2) == 3) = false := by simp; omega
        have d2 : (bt s (8 + 8 * (k : Int) + 2) == 4) = false := by simp; omega
        go_wp2
        go_roundw
        case rel => exact ⟨k + 1, by omega, by go_num, HF.out, hbel.alloc hz _⟩
        case measure => simp [intOf]; omega
    · have hkn : k = n := by omega
      subst hkn
      go_wp2
      go_ret
      exact ⟨by rw [HM.out]; rfl, hbel⟩

end Go.Proofs.YtmendnmmiabolaaDoor
