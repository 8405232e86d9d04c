import Derived.Test.YtmendnmmiabolaaDoorH
namespace Go.Proofs.YtmendnmmiabolaaDoor
open Go.RowKit

/-- What is told of any bytes: the error, the place. -/
def vetE (s : ByteArray) : Int := if 300 < (s.size : Int) then 1 else match vetBad s with
  | .none => 0
  | .some _ => 3
def vetP (s : ByteArray) : Int := if 300 < (s.size : Int) then 0 else match vetBad s with
  | .none => 0
  | .some x => x

theorem image_no (s : ByteArray) (x : Int) (hs : s.size ≤ 300) (h : vetBad s = some x) (w : World) :
    Calls Tryd.prog 29 #[.string s] w fun e w' => e = .panicked (noImg x) ∧ Below w.heap.size w w' :=
  (image_any s hs w).mono fun e w' ⟨he, hb⟩ => ⟨by rw [he, h]; rfl, hb⟩
theorem image_yes (s : ByteArray) (hs : s.size ≤ 300) (h : vetBad s = .none) (w : World) :
    Calls Tryd.prog 29 #[.string s] w fun e w' => e = .returned (.tuple #[]) ∧ Below w.heap.size w w' :=
  (image_any s hs w).mono fun e w' ⟨he, hb⟩ => ⟨by rw [he, h]; rfl, hb⟩

set_option maxRecDepth 100000 in
set_option maxHeartbeats 1000000 in
theorem vet_any (s : ByteArray) (w : World) :
    Calls Tryd.prog 15 #[.string s] w fun e w' => e = .returned (.tuple #[.int .i64 (vetE s), .int .i64 (vetP s)]) ∧ Below w.heap.size w w' := by
  have hmf : ∀ (fn : Fn) (first cap : Array Value) (w : World), (Instr.makeFunc fn first cap).run Tryd.prog w = .ok (.func fn first cap) w := fun _ _ _ _ => rfl
  by_cases h3 : 300 < (s.size : Int)
  · have HE : Hid (vetE s = 1) := by show vetE s = _; unfold vetE; rw [if_pos h3]
    have HP : Hid (vetP s = 0) := by show vetP s = _; unfold vetP; rw [if_pos h3]
    go_enter_defers Tryd.func15, Tryd.ntmps15
    go_wp2
    exact ⟨.tuple #[.int .i64 1, .int .i64 0], by simp [results, Tryd.results15, go_sem], by rw [HE.out, HP.out], ((Below.refl _ _).alloc (Nat.le_refl _) _).alloc (by simp) _⟩
  · have hs : s.size ≤ 300 := by omega
    cases hV : vetBad s with
    | none =>
      have HE : Hid (vetE s = 0) := by show vetE s = _; unfold vetE; rw [if_neg h3, hV]
      have HP : Hid (vetP s = 0) := by show vetP s = _; unfold vetP; rw [if_neg h3, hV]
      have HV : Hid (vetBad s = .none) := hV
      clear hV
      go_enter_defers Tryd.func15, Tryd.ntmps15
      go_wp2_with (go_at_call 29; refine (image_yes s hs HV.out _).mono ?_; rintro e w1 ⟨rfl, hb⟩; obtain ⟨hcc, hff⟩ := bcell hb)
      have hz : w.heap.size + 2 ≤ w1.heap.size := by have := hb.size; simp at this; omega
      have a0 : w1.cell? ⟨w.heap.size, 0, none⟩ = some (.int .i64 0) := by rw [hcc _ _ (by simp; omega)]; simp [go_sem]
      have a1 : w1.cell? ⟨w.heap.size + 1, 0, none⟩ = some (.int .i64 0) := by rw [hcc _ _ (by simp)]; simp [go_sem]
      have f0 : w1.frozen? ⟨w.heap.size, 0, none⟩ = false := by rw [hff _ _ (by simp; omega)]; simp [go_sem]
      have f1 : w1.frozen? ⟨w.heap.size + 1, 0, none⟩ = false := by rw [hff _ _ (by simp)]; simp [go_sem]
      have hB : Below w.heap.size w w1 := (((Below.refl _ _).alloc (Nat.le_refl _) _).alloc (by simp) _).trans (hb.mono (by simp; omega))
      refine leaves_cons (f := 27) (args := #[.pointer (some ⟨w.heap.size, 0, none⟩), .pointer (some ⟨w.heap.size + 1, 0, none⟩)]) (by simp) (by simp [go_sem]) ?_
      refine (catch_idle _ _ _).mono ?_
      rintro e u' w'' ⟨rfl, rfl, rfl⟩
      exact ⟨.tuple #[.int .i64 0, .int .i64 0], by simp [results, Tryd.results15, go_sem, a0, a1], by rw [HE.out, HP.out], (hB.setCell (Nat.le_refl _) _).setCell (Nat.le_succ _) _⟩
    | some x =>
      have HE : Hid (vetE s = 3) := by show vetE s = _; unfold vetE; rw [if_neg h3, hV]
      have HP : Hid (vetP s = x) := by show vetP s = _; unfold vetP; rw [if_neg h3, hV]
      have HV : Hid (vetBad s = some x) := hV
      clear hV
      go_enter_defers Tryd.func15, Tryd.ntmps15
      go_wp2_with (go_at_call 29; refine (image_no s x hs HV.out _).mono ?_; rintro e w1 ⟨rfl, hb⟩; obtain ⟨hcc, hff⟩ := bcell hb)
      have hz : w.heap.size + 2 ≤ w1.heap.size := by have := hb.size; simp at this; omega
      have a0 : w1.cell? ⟨w.heap.size, 0, none⟩ = some (.int .i64 0) := by rw [hcc _ _ (by simp; omega)]; simp [go_sem]
      have a1 : w1.cell? ⟨w.heap.size + 1, 0, none⟩ = some (.int .i64 0) := by rw [hcc _ _ (by simp)]; simp [go_sem]
      have f0 : w1.frozen? ⟨w.heap.size, 0, none⟩ = false := by rw [hff _ _ (by simp; omega)]; simp [go_sem]
      have f1 : w1.frozen? ⟨w.heap.size + 1, 0, none⟩ = false := by rw [hff _ _ (by simp)]; simp [go_sem]
      have hB : Below w.heap.size w w1 := (((Below.refl _ _).alloc (Nat.le_refl _) _).alloc (by simp) _).trans (hb.mono (by simp; omega))
      refine leaves_cons (f := 27) (args := #[.pointer (some ⟨w.heap.size, 0, none⟩), .pointer (some ⟨w.heap.size + 1, 0, none⟩)]) (by simp) (by simp [go_sem]) ?_
      refine (catch_panicking w.heap.size (w.heap.size + 1) 0 0 x w1 a0 f0 a1 f1 (by omega) (by omega) (by omega)).mono ?_
      rintro e u' w'' ⟨rfl, ⟨v, rfl⟩, w2, hb2, rfl⟩
      obtain ⟨hc2, _⟩ := bcell hb2
      have b0 : w2.cell? ⟨w.heap.size, 0, none⟩ = some (.int .i64 0) := (hc2 _ _ (by omega)).trans a0
      have b1 : w2.cell? ⟨w.heap.size + 1, 0, none⟩ = some (.int .i64 0) := (hc2 _ _ (by omega)).trans a1
      exact ⟨.tuple #[.int .i64 3, .int .i64 x], by simp [results, Tryd.results15, go_sem, b0, b1], by rw [HE.out, HP.out], ((hB.trans (hb2.mono (by omega))).setCell (Nat.le_refl _) _).setCell (Nat.le_succ _) _⟩
end Go.Proofs.YtmendnmmiabolaaDoor
