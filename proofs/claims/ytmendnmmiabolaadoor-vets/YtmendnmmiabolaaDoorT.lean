import Derived.Test.YtmendnmmiabolaaDoorI
namespace Go.Proofs.YtmendnmmiabolaaDoor
open Go.RowKit

/-- The document's own look, in its world: the image that it will hand back lies in the first new block, the one that it fills in the second. -/
structure XW (w wr : World) (e : Int) (v v2 : Value) : Prop where
  bel : Below w.heap.size w wr
  siz : w.heap.size + 2 ≤ wr.heap.size
  r0 : wr.cell? ⟨w.heap.size, 0, none⟩ = some (.int .i64 0)
  r1 : wr.cell? ⟨w.heap.size, 1, none⟩ = some (.slice none 0 0)
  r2 : wr.cell? ⟨w.heap.size, 2, none⟩ = some (.slice none 0 0)
  f0 : wr.frozen? ⟨w.heap.size, 0, none⟩ = false
  f1 : wr.frozen? ⟨w.heap.size, 1, none⟩ = false
  f2 : wr.frozen? ⟨w.heap.size, 2, none⟩ = false
  x0 : wr.cell? ⟨w.heap.size + 1, 0, none⟩ = some (.int .i64 e)
  x1 : wr.cell? ⟨w.heap.size + 1, 1, none⟩ = some v
  x2 : wr.cell? ⟨w.heap.size + 1, 2, none⟩ = some v2
  g0 : wr.frozen? ⟨w.heap.size + 1, 0, none⟩ = false
  g1 : wr.frozen? ⟨w.heap.size + 1, 1, none⟩ = false
  g2 : wr.frozen? ⟨w.heap.size + 1, 2, none⟩ = false

theorem XW.same {w wr w1 : World} {e : Int} {v v2 : Value} (h : XW w wr e v v2) (hb : Below w.heap.size w w1) (hz : wr.heap.size ≤ w1.heap.size)
    (hc : ∀ b o, b < w.heap.size + 2 → w1.cell? ⟨b, o, none⟩ = wr.cell? ⟨b, o, none⟩) (hf : ∀ b o, b < w.heap.size + 2 → w1.frozen? ⟨b, o, none⟩ = wr.frozen? ⟨b, o, none⟩) : XW w w1 e v v2 :=
  ⟨hb, Nat.le_trans h.siz hz, (hc _ _ (by omega)).trans h.r0, (hc _ _ (by omega)).trans h.r1, (hc _ _ (by omega)).trans h.r2, (hf _ _ (by omega)).trans h.f0, (hf _ _ (by omega)).trans h.f1, (hf _ _ (by omega)).trans h.f2,
   (hc _ _ (by omega)).trans h.x0, (hc _ _ (by omega)).trans h.x1, (hc _ _ (by omega)).trans h.x2, (hf _ _ (by omega)).trans h.g0, (hf _ _ (by omega)).trans h.g1, (hf _ _ (by omega)).trans h.g2⟩
theorem XW.below {w wr w1 : World} {e : Int} {v v2 : Value} (h : XW w wr e v v2) (hb : Below wr.heap.size wr w1) : XW w w1 e v v2 :=
  h.same (h.bel.trans (hb.mono (by have := h.siz; omega))) hb.size (fun b o hlt => hb.cell (p := ⟨b, o, none⟩) (by have := h.siz; show b < _; omega)) (fun b o hlt => hb.frozen (p := ⟨b, o, none⟩) (by have := h.siz; show b < _; omega))
theorem XW.drewN {w wr : World} {e : Int} {v v2 : Value} (h : XW w wr e v v2) (n : Nat) : XW w (wr.drewN n) e v v2 := h.below (below_drewN (Below.refl _ _) n)
theorem XW.alloc {w wr : World} {e : Int} {v v2 : Value} (h : XW w wr e v v2) (o : Obj) : XW w (wr.alloc o) e v v2 := h.below ((Below.refl _ _).alloc (Nat.le_refl _) o)
theorem XW.grown {w wr w2 : World} {e : Int} {v v2 : Value} {row : Option Nat} (h : XW w wr e v v2) (hg : wr.grownBy w2 row) (hr : ∀ k, row = some k → w.heap.size + 2 ≤ k) : XW w w2 e v v2 := by
  have hz := h.siz
  have hne : ∀ b, b < w.heap.size + 2 → some b ≠ row := fun b hb hh => by have := hr b hh.symm; omega
  refine h.same (h.bel.grown hg (by omega) (fun k hk => by have := hr k hk; omega)) hg.size (fun b o hb => ?_) (fun b o hb => ?_)
  · exact World.cell?_of_block (w := wr) (hg.block b (by omega) (hne b hb))
  · exact World.frozen?_of_block (w := wr) (hg.block b (by omega) (hne b hb))
theorem XW.setFar {w wr : World} {e : Int} {v v2 : Value} (h : XW w wr e v v2) (b o : Nat) (hb : w.heap.size + 2 ≤ b) (u : Value) : XW w (wr.setCell ⟨b, o, none⟩ u) e v v2 := by
  refine h.same (h.bel.setCell (p := ⟨b, o, none⟩) (by show _ ≤ b; omega) u) (by simp) (fun c p hc => ?_) (fun c p hc => by simp)
  exact World.cell?_setCell_other _ _ _ _ (by intro hh; injection hh with h1; omega)
theorem XW.entry {w wr : World} {e : Int} {v v2 : Value} (h : XW w wr e v v2) (e' : Int) : XW w (wr.setCell ⟨w.heap.size + 1, 0, none⟩ (.int .i64 e')) e' v v2 := by
  have hz := h.siz
  refine ⟨h.bel.setCell (p := ⟨w.heap.size + 1, 0, none⟩) (Nat.le_succ _) _, by simpa using hz, ?_, ?_, ?_, by simpa using h.f0, by simpa using h.f1, by simpa using h.f2, ?_, ?_, ?_, by simpa using h.g0, by simpa using h.g1, by simpa using h.g2⟩
  · rw [World.cell?_setCell_other _ _ _ _ (by simp)]; exact h.r0
  · rw [World.cell?_setCell_other _ _ _ _ (by simp)]; exact h.r1
  · rw [World.cell?_setCell_other _ _ _ _ (by simp)]; exact h.r2
  · exact World.cell?_setCell_same _ _ _ h.x0
  · rw [World.cell?_setCell_other _ _ _ _ (by simp)]; exact h.x1
  · rw [World.cell?_setCell_other _ _ _ _ (by simp)]; exact h.x2
theorem XW.segs {w wr : World} {e : Int} {v v2 : Value} (h : XW w wr e v v2) (v' : Value) : XW w (wr.setCell ⟨w.heap.size + 1, 1, none⟩ v') e v' v2 := by
  have hz := h.siz
  refine ⟨h.bel.setCell (p := ⟨w.heap.size + 1, 1, none⟩) (Nat.le_succ _) _, by simpa using hz, ?_, ?_, ?_, by simpa using h.f0, by simpa using h.f1, by simpa using h.f2, ?_, ?_, ?_, by simpa using h.g0, by simpa using h.g1, by simpa using h.g2⟩
  · rw [World.cell?_setCell_other _ _ _ _ (by simp)]; exact h.r0
  · rw [World.cell?_setCell_other _ _ _ _ (by simp)]; exact h.r1
  · rw [World.cell?_setCell_other _ _ _ _ (by simp)]; exact h.r2
  · rw [World.cell?_setCell_other _ _ _ _ (by simp)]; exact h.x0
  · exact World.cell?_setCell_same _ _ _ h.x1
  · rw [World.cell?_setCell_other _ _ _ _ (by simp)]; exact h.x2
theorem XW.moves {w wr : World} {e : Int} {v v2 : Value} (h : XW w wr e v v2) (v' : Value) : XW w (wr.setCell ⟨w.heap.size + 1, 2, none⟩ v') e v v' := by
  have hz := h.siz
  refine ⟨h.bel.setCell (p := ⟨w.heap.size + 1, 2, none⟩) (Nat.le_succ _) _, by simpa using hz, ?_, ?_, ?_, by simpa using h.f0, by simpa using h.f1, by simpa using h.f2, ?_, ?_, ?_, by simpa using h.g0, by simpa using h.g1, by simpa using h.g2⟩
  · rw [World.cell?_setCell_other _ _ _ _ (by simp)]; exact h.r0
  · rw [World.cell?_setCell_other _ _ _ _ (by simp)]; exact h.r1
  · rw [World.cell?_setCell_other _ _ _ _ (by simp)]; exact h.r2
  · rw [World.cell?_setCell_other _ _ _ _ (by simp)]; exact h.x0
  · rw [World.cell?_setCell_other _ _ _ _ (by simp)]; exact h.x1
  · exact World.cell?_setCell_same _ _ _ h.x2
theorem XW.start (w : World) : XW w ((w.alloc (.cells #[.int .i64 0, .slice none 0 0, .slice none 0 0] 42)).alloc (.cells #[.int .i64 0, .slice none 0 0, .slice none 0 0] 42)) 0 (.slice none 0 0) (.slice none 0 0) := by
  refine ⟨((Below.refl _ _).alloc (Nat.le_refl _) _).alloc (by simp) _, by simp, ?_, ?_, ?_, ?_, ?_, ?_, ?_, ?_, ?_, ?_, ?_, ?_⟩ <;> simp [go_sem]
/-- Behind the return: what was the look's is behind it. -/
theorem XW.done {w wr : World} {e : Int} {v v2 : Value} (h : XW w wr e v v2) (a b c : Value) : Below w.heap.size w (((wr.setCell ⟨w.heap.size, 0, none⟩ a).setCell ⟨w.heap.size, 1, none⟩ b).setCell ⟨w.heap.size, 2, none⟩ c) :=
  ((h.bel.setCell (Nat.le_refl _) _).setCell (Nat.le_refl _) _).setCell (Nat.le_refl _) _
end Go.Proofs.YtmendnmmiabolaaDoor
