import Derived.Test.YtmendnmmiabolaaDoorU
import Derived.Deep.Slices
namespace Go.Proofs.YtmendnmmiabolaaDoor
open Go.RowKit
set_option maxRecDepth 100000 in
set_option maxHeartbeats 1000000 in
theorem plays_vet (root : ByteArray) (a b : Int) (s t : ByteArray) (w : World) :
    Calls Tryd.prog 5 #[.string root, .agg #[.int .i64 5, .int .i64 a, .int .i64 b, .string s, .string t]] w fun e w' => e = .returned (.bool true) ∧ Below w.heap.size w w' := by
  go_enter Tryd.func5, Tryd.ntmps5
  go_wp2_with (first
    | (go_at_call 15; refine (vet_any s _).mono ?_; rintro e w1 ⟨rfl, hb1⟩; obtain ⟨hcc, hff⟩ := bcell hb1)
    | (go_at_call 16; refine (rvet_any s _).mono ?_; rintro e w2 ⟨x0, ad, l, c, ad2, l2, c2, rfl, hb2⟩)
    | (go_at_call 8; refine (num_any _ _).mono ?_; rintro e w3 ⟨rfl, rfl⟩))
  go_ret
  refine ⟨rfl, ?_⟩
  have h1 : Below w.heap.size w w1 := ((Below.refl _ _).alloc (Nat.le_refl _) _).trans (hb1.mono (by simp))
  exact (h1.trans (hb2.mono h1.size)).alloc (Nat.le_trans h1.size hb2.size) _

/-- A step, as its five cells. -/
def opCells (o : Int × Int × Int × ByteArray × ByteArray) : List Value := [.int .i64 o.1, .int .i64 o.2.1, .int .i64 o.2.2.1, .string o.2.2.2.1, .string o.2.2.2.2]

set_option maxRecDepth 100000 in
set_option maxHeartbeats 2000000 in
theorem upTo_vet (r : ByteArray) (g off n cap : Nat) (hn : n ≤ maxLen) (K A B : Nat → Int) (S T : Nat → ByteArray) (w : World) (hg : g < w.heap.size)
    (hc : ∀ k : Nat, k < n → w.cell? ⟨g, off + k * 5, none⟩ = some (.int .i64 (K k)) ∧ w.cell? ⟨g, off + k * 5 + 1, none⟩ = some (.int .i64 (A k)) ∧ w.cell? ⟨g, off + k * 5 + 2, none⟩ = some (.int .i64 (B k)) ∧ w.cell? ⟨g, off + k * 5 + 3, none⟩ = some (.string (S k)) ∧ w.cell? ⟨g, off + k * 5 + 4, none⟩ = some (.string (T k))) :
    Calls Tryd.prog 4 #[.string r, .slice (some ⟨g, off, none⟩) n cap, .int .i64 5, .int .i64 5] w fun e w' => e = .returned (.int .i64 (-1)) ∧ Below w.heap.size w w' := by
  unfold maxLen at hn
  have HC : Hid (∀ k : Nat, k < n → w.cell? ⟨g, off + k * 5, none⟩ = some (.int .i64 (K k)) ∧ w.cell? ⟨g, off + k * 5 + 1, none⟩ = some (.int .i64 (A k)) ∧ w.cell? ⟨g, off + k * 5 + 2, none⟩ = some (.int .i64 (B k)) ∧ w.cell? ⟨g, off + k * 5 + 3, none⟩ = some (.string (S k)) ∧ w.cell? ⟨g, off + k * 5 + 4, none⟩ = some (.string (T k))) := hc
  clear hc
  go_enter Tryd.func4, Tryd.ntmps4
  go_wp2_with fail
  go_loopw [9] (fun i wr => ∃ k : Nat, k ≤ n ∧ i = .int .i64 k ∧ Below w.heap.size w wr) (fun i _ => n - (intOf i).toNat)
  case atStart => exact ⟨0, by omega, rfl, Below.refl _ _⟩
  case round =>
    obtain ⟨k, hk, rfl, hbel⟩ := hrel
    have hz := hbel.size
    by_cases hlt : k < n
    · have hl : (k : Int) < (n : Int) := by omega
      have hbc : ∀ o, wr.cell? ⟨g, o, none⟩ = w.cell? ⟨g, o, none⟩ := fun o => hbel.cell (p := ⟨g, o, none⟩) hg
      obtain ⟨d0, d1, d2, d3, d4⟩ := HC.out k hlt
      rw [← hbc] at d0 d1 d2 d3 d4
      clear hbc
      by_cases hm : (k : Int) < 1152921504606846976
      · by_cases h5 : K k = 5
        · rw [h5] at d0
          clear h5
          go_wp2_with (go_at_call 5; refine (plays_vet _ _ _ _ _ _).mono ?_; rintro e w1 ⟨rfl, hb1⟩)
          go_roundw
          case rel => exact ⟨k + 1, by omega, by go_num, (hbel.alloc hz _).trans (hb1.mono (by simp; omega))⟩
          case measure => simp [intOf]; omega
        · have dd : (decide (5 ≤ K k) = true ∧ decide (K k ≤ 5) = false) ∨ decide (5 ≤ K k) = false := by simp; omega
          clear h5
          rcases dd with ⟨dd, d5⟩ | dd
          all_goals
            go_wp2_with fail
            go_roundw
            case rel => exact ⟨k + 1, by omega, by go_num, hbel.alloc hz _⟩
            case measure => simp [intOf]; omega
      · have dm : decide ((k : Int) < 1152921504606846976) = false := by simpa using hm
        go_wp2_with fail
        go_ret
        exact ⟨rfl, hbel⟩
    · have dl : decide ((k : Int) < (n : Int)) = false := by simp; omega
      have dl' : decide (k < n) = false := by simp; omega
      go_wp2_with fail
      go_ret
      exact ⟨rfl, hbel⟩

set_option maxRecDepth 100000 in
set_option maxHeartbeats 1000000 in
theorem upTo_zero (r : ByteArray) (a : Option Addr) (cap : Nat) (w : World) :
    Calls Tryd.prog 4 #[.string r, .slice a 0 cap, .int .i64 5, .int .i64 5] w fun e w' => e = .returned (.int .i64 (-1)) ∧ w' = w := by
  go_enter Tryd.func4, Tryd.ntmps4
  go_wp2_with fail
  go_loop [9] (fun i => i = .int .i64 0) (fun _ => 0)
  case atStart => rfl
  case round =>
    subst hrel
    go_wp2_with fail
    go_ret
    exact ⟨rfl, rfl⟩

set_option maxRecDepth 100000 in
set_option maxHeartbeats 1000000 in
theorem vets_zero (a : Option Addr) (cap : Nat) (w : World) :
    Calls Tryd.prog 3 #[.slice a 0 cap] w fun e w' => e = .returned (.bool true) ∧ Below w.heap.size w w' := by
  go_enter Tryd.func3, Tryd.ntmps3
  go_wp2_with (go_at_call 4; refine (upTo_zero _ _ _ _).mono ?_; rintro e w1 ⟨rfl, rfl⟩)
  go_ret
  exact ⟨rfl, Below.refl _ _⟩

set_option maxRecDepth 100000 in
set_option maxHeartbeats 1000000 in
theorem vets_some (g off n cap : Nat) (hn : n ≤ maxLen) (K A B : Nat → Int) (S T : Nat → ByteArray) (w : World) (hg : g < w.heap.size)
    (hc : ∀ k : Nat, k < n → w.cell? ⟨g, off + k * 5, none⟩ = some (.int .i64 (K k)) ∧ w.cell? ⟨g, off + k * 5 + 1, none⟩ = some (.int .i64 (A k)) ∧ w.cell? ⟨g, off + k * 5 + 2, none⟩ = some (.int .i64 (B k)) ∧ w.cell? ⟨g, off + k * 5 + 3, none⟩ = some (.string (S k)) ∧ w.cell? ⟨g, off + k * 5 + 4, none⟩ = some (.string (T k))) :
    Calls Tryd.prog 3 #[.slice (some ⟨g, off, none⟩) n cap] w fun e w' => e = .returned (.bool true) ∧ Below w.heap.size w w' := by
  have HC : Hid (∀ k : Nat, k < n → w.cell? ⟨g, off + k * 5, none⟩ = some (.int .i64 (K k)) ∧ w.cell? ⟨g, off + k * 5 + 1, none⟩ = some (.int .i64 (A k)) ∧ w.cell? ⟨g, off + k * 5 + 2, none⟩ = some (.int .i64 (B k)) ∧ w.cell? ⟨g, off + k * 5 + 3, none⟩ = some (.string (S k)) ∧ w.cell? ⟨g, off + k * 5 + 4, none⟩ = some (.string (T k))) := hc
  clear hc
  go_enter Tryd.func3, Tryd.ntmps3
  go_wp2_with (go_at_call 4; refine (upTo_vet _ g off n cap hn K A B S T _ hg HC.out).mono ?_; rintro e w1 ⟨rfl, hb⟩)
  go_ret
  exact ⟨rfl, hb⟩
end Go.Proofs.YtmendnmmiabolaaDoor
