import Derived.Test.YtmendnmmiabolaaDoorE
namespace Go.Proofs.YtmendnmmiabolaaDoor
open Go.RowKit

/-- The segments' numbers, as they lie in a block. -/
def SegAt (w : World) (g : Nat) (s : ByteArray) (n : Nat) : Prop :=
  ∀ k : Nat, k < n → w.cell? ⟨g, k * 5, none⟩ = some (.int .i64 (bt s (8 + 8 * (k : Int)))) ∧ w.cell? ⟨g, k * 5 + 1, none⟩ = some (.int .i64 (bt s (8 + 8 * (k : Int) + 1))) ∧
    w.cell? ⟨g, k * 5 + 2, none⟩ = some (.int .i64 (bt s (8 + 8 * (k : Int) + 2))) ∧ w.cell? ⟨g, k * 5 + 3, none⟩ = some (.int .i64 (two s (8 + 8 * (k : Int) + 4))) ∧ w.cell? ⟨g, k * 5 + 4, none⟩ = some (.int .i64 (two s (8 + 8 * (k : Int) + 6)))

theorem segVals_length (s : ByteArray) (n : Nat) : (segVals s n).length = n * 5 := by
  induction n with
  | zero => rfl
  | succ n ih => rw [segVals, List.length_append, ih]; simp [segVal]; omega
theorem segVals_get (s : ByteArray) (n k j : Nat) (hk : k < n) (hj : j < 5) : (segVals s n)[k * 5 + j]? = (segVal s (8 + 8 * (k : Int)))[j]? := by
  induction n with
  | zero => omega
  | succ n ih =>
    rw [segVals]
    by_cases h : k < n
    · rw [List.getElem?_append_left (by rw [segVals_length]; omega), ih h]
    · have : k = n := by omega
      subst this
      rw [List.getElem?_append_right (by rw [segVals_length]; omega), segVals_length]
      congr 1; omega
theorem segAt_own {w : World} {base : Nat} {e : TypeId} {g n cap : Nat} {s : ByteArray} (h : w.ownsRow base e 5 (.slice (some ⟨g, 0, none⟩) n cap) n (segVals s n)) : SegAt w g s n := by
  intro k hk
  have hc := h.cells (g := g) rfl
  refine ⟨?_, ?_, ?_, ?_, ?_⟩
  · have := hc (k * 5 + 0) _ (by rw [segVals_get s n k 0 hk (by omega)]; rfl)
    by_cases h0 : k * 5 = 0
    · simpa [Addr.add, h0] using this
    · simpa [Addr.add, h0] using this
  · have := hc (k * 5 + 1) _ (by rw [segVals_get s n k 1 hk (by omega)]; rfl); simpa [Addr.add] using this
  · have := hc (k * 5 + 2) _ (by rw [segVals_get s n k 2 hk (by omega)]; rfl); simpa [Addr.add] using this
  · have := hc (k * 5 + 3) _ (by rw [segVals_get s n k 3 hk (by omega)]; rfl); simpa [Addr.add] using this
  · have := hc (k * 5 + 4) _ (by rw [segVals_get s n k 4 hk (by omega)]; rfl); simpa [Addr.add] using this
theorem SegAt.below {w w1 : World} {g n : Nat} {s : ByteArray} (h : SegAt w g s n) (hg : g < w.heap.size) (hb : Below w.heap.size w w1) : SegAt w1 g s n := by
  intro k hk
  obtain ⟨h0, h1, h2, h3, h4⟩ := h k hk
  exact ⟨(hb.cell (p := ⟨g, _, none⟩) hg).trans h0, (hb.cell (p := ⟨g, _, none⟩) hg).trans h1, (hb.cell (p := ⟨g, _, none⟩) hg).trans h2, (hb.cell (p := ⟨g, _, none⟩) hg).trans h3, (hb.cell (p := ⟨g, _, none⟩) hg).trans h4⟩

theorem movB_mono (s : ByteArray) (a : Int) (k n : Nat) (h : k ≤ n) (hk : movB s a k = true) : movB s a n = true := by
  induction n with
  | zero => have : k = 0 := by omega
            subst this; exact hk
  | succ n ih =>
    by_cases hkn : k ≤ n
    · rw [movB, ih hkn]; rfl
    · have : k = n + 1 := by omega
      subst this; exact hk
theorem codeB_mono (s : ByteArray) (a : Int) (k n : Nat) (h : k ≤ n) (hk : codeB s a k = true) : codeB s a n = true := by
  induction n with
  | zero => have : k = 0 := by omega
            subst this; exact hk
  | succ n ih =>
    by_cases hkn : k ≤ n
    · rw [codeB, ih hkn]; rfl
    · have : k = n + 1 := by omega
      subst this; exact hk
theorem movB_hit (s : ByteArray) (a : Int) (k n : Nat) (h : k < n) (h3 : 3 ≤ bt s (8 + 8 * (k : Int) + 2)) (h1 : bt s (8 + 8 * (k : Int)) * 32 ≤ a) (h2 : a + 2 ≤ (bt s (8 + 8 * (k : Int)) + bt s (8 + 8 * (k : Int) + 1)) * 32) : movB s a n = true := by
  refine movB_mono s a (k + 1) n h ?_
  rw [movB]; simp [h3, h1, h2]
theorem movB_miss (s : ByteArray) (a : Int) (k : Nat) (hk : movB s a k = false) (h : ¬ (3 ≤ bt s (8 + 8 * (k : Int) + 2) ∧ bt s (8 + 8 * (k : Int)) * 32 ≤ a ∧ a + 2 ≤ (bt s (8 + 8 * (k : Int)) + bt s (8 + 8 * (k : Int) + 1)) * 32)) : movB s a (k + 1) = false := by
  rw [movB, hk]; simp; omega
theorem codeB_hit (s : ByteArray) (a : Int) (k n : Nat) (h : k < n) (h3 : bt s (8 + 8 * (k : Int) + 2) = 1) (h1 : bt s (8 + 8 * (k : Int)) * 32 ≤ a) (h2 : a < bt s (8 + 8 * (k : Int)) * 32 + two s (8 + 8 * (k : Int) + 6)) : codeB s a n = true := by
  refine codeB_mono s a (k + 1) n h ?_
  rw [codeB]; simp [h3, h1, h2]
theorem codeB_miss (s : ByteArray) (a : Int) (k : Nat) (hk : codeB s a k = false) (h : ¬ (bt s (8 + 8 * (k : Int) + 2) = 1 ∧ bt s (8 + 8 * (k : Int)) * 32 ≤ a ∧ a < bt s (8 + 8 * (k : Int)) * 32 + two s (8 + 8 * (k : Int) + 6))) : codeB s a (k + 1) = false := by
  rw [codeB, hk]; simp; omega

set_option maxRecDepth 100000 in
set_option maxHeartbeats 2000000 in
theorem moved_any (s : ByteArray) (g n cap : Nat) (a : Int) (ha : 0 ≤ a ∧ a ≤ 65535) (hn : n ≤ 4) (w : World) (hc : SegAt w g s n) :
    Calls Tryd.prog 32 #[.slice (some ⟨g, 0, none⟩) n cap, .int .i64 a] w fun e w' => e = .returned (.bool (movB s a n)) ∧ w' = w := by
  go_enter Tryd.func32, Tryd.ntmps32
  go_wp2
  go_loop [5] (fun i => ∃ k : Nat, k ≤ n ∧ i = .int .i64 k ∧ movB s a k = false) (fun i => n - (intOf i).toNat)
  case atStart => exact ⟨0, by omega, rfl, rfl⟩
  case round =>
    obtain ⟨k, hk, rfl, hm⟩ := hrel
    have HM : Hid (movB s a k = false) := hm
    clear hm
    by_cases hlt : k < n
    · obtain ⟨c0, c1, c2, c3, c4⟩ := hc k hlt
      have q0 := bt_bd s (8 + 8 * (k : Int))
      have q1 := bt_bd s (8 + 8 * (k : Int) + 1)
      have q2 := bt_bd s (8 + 8 * (k : Int) + 2)
      have hl : (k : Int) < (n : Int) := by omega
      have HC : Hid (SegAt w g s n) := hc
      clear hc
      by_cases x1 : 3 ≤ bt s (8 + 8 * (k : Int) + 2)
      · by_cases x2 : bt s (8 + 8 * (k : Int)) * 32 ≤ a
        · by_cases x3 : a + 2 ≤ bt s (8 + 8 * (k : Int)) * 32 + bt s (8 + 8 * (k : Int) + 1) * 32
          · have HF : Hid (movB s a n = true) := movB_hit s a k n hlt x1 x2 (by omega)
            go_wp2
            go_ret
            exact ⟨by rw [HF.out]; rfl, rfl⟩
          · have HF : Hid (movB s a (k + 1) = false) := movB_miss s a k HM.out (fun h => x3 (by omega))
            have d3 : decide (a + 2 ≤ bt s (8 + 8 * (k : Int)) * 32 + bt s (8 + 8 * (k : Int) + 1) * 32) = false := by simpa using x3
            go_wp2
            go_round
            case rel => exact ⟨k + 1, by omega, by go_num, HF.out⟩
            case measure => simp [intOf]; omega
        · have HF : Hid (movB s a (k + 1) = false) := movB_miss s a k HM.out (fun h => x2 h.2.1)
          have d2 : decide (bt s (8 + 8 * (k : Int)) * 32 ≤ a) = false := by simpa using x2
          go_wp2
          go_round
          case rel => exact ⟨k + 1, by omega, by go_num, HF.out⟩
          case measure => simp [intOf]; omega
      · have HF : Hid (movB s a (k + 1) = false) := movB_miss s a k HM.out (fun h => x1 h.1)
        have d1 : decide (3 ≤ bt s (8 + 8 * (k : Int) + 2)) = false := by simpa using x1
        go_wp2
        go_round
        case rel => exact ⟨k + 1, by omega, by go_num, HF.out⟩
        case measure => simp [intOf]; omega
    · have hkn : k = n := by omega
      subst hkn
      go_wp2
      go_ret
      exact ⟨by rw [HM.out]; rfl, rfl⟩
end Go.Proofs.YtmendnmmiabolaaDoor
