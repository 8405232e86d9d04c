import Derived.Test.YtmendnmmiabolaaDoorF
namespace Go.Proofs.YtmendnmmiabolaaDoor
open Go.RowKit

theorem own_form {w : World} {base : Nat} {e : TypeId} {size : Nat} {v : Value} {n : Nat} {xs : List Value} (h : w.ownsRow base e size v n xs) : ∃ ad c, v = .slice ad n c := by
  rcases h.2 with ⟨h1, h2⟩ | ⟨g, cap, cur, hv, _⟩
  · exact ⟨.none, 0, by rw [h1, h2]⟩
  · exact ⟨_, _, hv⟩
theorem mvVals_length (s : ByteArray) (q : Int) (k : Nat) : (mvVals s q k).length = k * 2 := by
  induction k with
  | zero => rfl
  | succ k ih => rw [mvVals, List.length_append, ih]; simp [mvVal]; omega
theorem mvVal_cells (w : World) (b : Nat) (hb : b = w.heap.size) (s : ByteArray) (p : Int) (t : TypeId) : ∀ j u, (mvVal s p)[j]? = some u → (w.alloc (.cells (mvVal s p).toArray t)).cell? ((⟨b, 0, none⟩ : Addr).add j) = some u := by
  subst hb
  intro j u hj
  have hlt : j < 2 := by
    have := (List.getElem?_eq_some_iff.1 hj).1
    simpa [mvVal] using this
  match j, hlt with
  | 0, _ => simp [mvVal] at hj; subst hj; simp [Addr.add, mvVal]
  | 1, _ => simp [mvVal] at hj; subst hj; simp [Addr.add, mvVal]
theorem mvVal_one (s : ByteArray) (p : Int) : ∀ u ∈ mvVal s p, u.oneCell' = true := by
  intro u hu
  simp [mvVal] at hu
  rcases hu with rfl | rfl <;> rfl
theorem ownsRow_setCell {w : World} {base : Nat} {e : TypeId} {size : Nat} {v : Value} {n : Nat} {xs : List Value} (h : w.ownsRow base e size v n xs) (b o : Nat) (hb : b < base) (u : Value) : (w.setCell ⟨b, o, none⟩ u).ownsRow base e size v n xs := by
  obtain ⟨h1, h2⟩ := h
  refine ⟨h1, ?_⟩
  rcases h2 with h2 | ⟨g, cap, cur, hv, hbg, hg, r⟩
  · exact .inl h2
  · exact .inr ⟨g, cap, cur, hv, hbg, (Below.heap_setCell w ⟨b, o, none⟩ u g (by show g ≠ b; omega)).trans hg, r⟩
theorem sgVal_cells (w : World) (b : Nat) (hb : b = w.heap.size) (s : ByteArray) (p : Int) (t : TypeId) : ∀ j u, (sgVal s p)[j]? = some u → (w.alloc (.cells (sgVal s p).toArray t)).cell? ((⟨b, 0, none⟩ : Addr).add j) = some u := by
  subst hb
  intro j u hj
  have hlt : j < 6 := by
    have := (List.getElem?_eq_some_iff.1 hj).1
    simpa [sgVal] using this
  match j, hlt with
  | 0, _ => simp [sgVal] at hj; subst hj; simp [Addr.add, sgVal]
  | 1, _ => simp [sgVal] at hj; subst hj; simp [Addr.add, sgVal]
  | 2, _ => simp [sgVal] at hj; subst hj; simp [Addr.add, sgVal]
  | 3, _ => simp [sgVal] at hj; subst hj; simp [Addr.add, sgVal]
  | 4, _ => simp [sgVal] at hj; subst hj; simp [Addr.add, sgVal]
  | 5, _ => simp [sgVal] at hj; subst hj; simp [Addr.add, sgVal]
theorem sgVal_one (s : ByteArray) (p : Int) : ∀ u ∈ sgVal s p, u.oneCell' = true := by
  intro u hu
  simp [sgVal] at hu
  rcases hu with rfl | rfl | rfl | rfl | rfl | rfl <;> rfl
theorem sgVals_length (s : ByteArray) (n : Nat) : (sgVals s n).length = n * 6 := by
  induction n with
  | zero => rfl
  | succ n ih => rw [sgVals, List.length_append, ih]; simp [sgVal]; omega
theorem sgVals_get (s : ByteArray) (n k j : Nat) (hk : k < n) (hj : j < 6) : (sgVals s n)[k * 6 + j]? = (sgVal s (8 + 8 * (k : Int)))[j]? := by
  induction n with
  | zero => omega
  | succ n ih =>
    rw [sgVals]
    by_cases h : k < n
    · rw [List.getElem?_append_left (by rw [sgVals_length]; omega), ih h]
    · have : k = n := by omega
      subst this
      rw [List.getElem?_append_right (by rw [sgVals_length]; omega), sgVals_length]
      congr 1; omega

/-- The reading of a layout, in its world: what it will hand back lies in the first new block, what it fills in the second. -/
structure LW (w wr : World) (v v2 : Value) (e : Int) : Prop where
  bel : Below w.heap.size w wr
  siz : w.heap.size + 2 ≤ wr.heap.size
  r0 : wr.cell? ⟨w.heap.size, 0, none⟩ = some (.slice none 0 0)
  r1 : wr.cell? ⟨w.heap.size, 1, none⟩ = some (.slice none 0 0)
  r2 : wr.cell? ⟨w.heap.size, 2, none⟩ = some (.int .i64 0)
  f0 : wr.frozen? ⟨w.heap.size, 0, none⟩ = false
  f1 : wr.frozen? ⟨w.heap.size, 1, none⟩ = false
  f2 : wr.frozen? ⟨w.heap.size, 2, none⟩ = false
  x0 : wr.cell? ⟨w.heap.size + 1, 0, none⟩ = some v
  x1 : wr.cell? ⟨w.heap.size + 1, 1, none⟩ = some v2
  x2 : wr.cell? ⟨w.heap.size + 1, 2, none⟩ = some (.int .i64 e)
  g0 : wr.frozen? ⟨w.heap.size + 1, 0, none⟩ = false
  g1 : wr.frozen? ⟨w.heap.size + 1, 1, none⟩ = false
  g2 : wr.frozen? ⟨w.heap.size + 1, 2, none⟩ = false

theorem LW.same {w wr w1 : World} {v v2 : Value} {e : Int} (h : LW w wr v v2 e) (hb : Below w.heap.size w w1) (hz : wr.heap.size ≤ w1.heap.size)
    (hc : ∀ b o, b < w.heap.size + 2 → w1.cell? ⟨b, o, none⟩ = wr.cell? ⟨b, o, none⟩) (hf : ∀ b o, b < w.heap.size + 2 → w1.frozen? ⟨b, o, none⟩ = wr.frozen? ⟨b, o, none⟩) : LW w w1 v v2 e :=
  ⟨hb, Nat.le_trans h.siz hz, (hc _ _ (by omega)).trans h.r0, (hc _ _ (by omega)).trans h.r1, (hc _ _ (by omega)).trans h.r2, (hf _ _ (by omega)).trans h.f0, (hf _ _ (by omega)).trans h.f1, (hf _ _ (by omega)).trans h.f2,
   (hc _ _ (by omega)).trans h.x0, (hc _ _ (by omega)).trans h.x1, (hc _ _ (by omega)).trans h.x2, (hf _ _ (by omega)).trans h.g0, (hf _ _ (by omega)).trans h.g1, (hf _ _ (by omega)).trans h.g2⟩
theorem LW.below {w wr w1 : World} {v v2 : Value} {e : Int} (h : LW w wr v v2 e) (hb : Below wr.heap.size wr w1) : LW w w1 v v2 e :=
  h.same (h.bel.trans (hb.mono (by have := h.siz; omega))) hb.size (fun b o hlt => hb.cell (p := ⟨b, o, none⟩) (by have := h.siz; show b < _; omega)) (fun b o hlt => hb.frozen (p := ⟨b, o, none⟩) (by have := h.siz; show b < _; omega))
theorem LW.drewN {w wr : World} {v v2 : Value} {e : Int} (h : LW w wr v v2 e) (n : Nat) : LW w (wr.drewN n) v v2 e := h.below (below_drewN (Below.refl _ _) n)
theorem LW.alloc {w wr : World} {v v2 : Value} {e : Int} (h : LW w wr v v2 e) (o : Obj) : LW w (wr.alloc o) v v2 e := h.below ((Below.refl _ _).alloc (Nat.le_refl _) o)
theorem LW.grown {w wr w2 : World} {v v2 : Value} {e : Int} {row : Option Nat} (h : LW w wr v v2 e) (hg : wr.grownBy w2 row) (hr : ∀ k, row = some k → w.heap.size + 2 ≤ k) : LW w w2 v v2 e := by
  have hz := h.siz
  have hne : ∀ b, b < w.heap.size + 2 → some b ≠ row := fun b hb hh => by have := hr b hh.symm; omega
  refine h.same (h.bel.grown hg (by omega) (fun k hk => by have := hr k hk; omega)) hg.size (fun b o hb => ?_) (fun b o hb => ?_)
  · exact World.cell?_of_block (w := wr) (hg.block b (by omega) (hne b hb))
  · exact World.frozen?_of_block (w := wr) (hg.block b (by omega) (hne b hb))
theorem LW.setFar {w wr : World} {v v2 : Value} {e : Int} (h : LW w wr v v2 e) (b o : Nat) (hb : w.heap.size + 2 ≤ b) (u : Value) : LW w (wr.setCell ⟨b, o, none⟩ u) v v2 e := by
  refine h.same (h.bel.setCell (p := ⟨b, o, none⟩) (by show _ ≤ b; omega) u) (by simp) (fun c p hc => ?_) (fun c p hc => by simp)
  exact World.cell?_setCell_other _ _ _ _ (by intro hh; injection hh with h1; omega)
theorem LW.segs {w wr : World} {v v2 : Value} {e : Int} (h : LW w wr v v2 e) (v' : Value) : LW w (wr.setCell ⟨w.heap.size + 1, 0, none⟩ v') v' v2 e := by
  have hz := h.siz
  refine ⟨h.bel.setCell (p := ⟨w.heap.size + 1, 0, none⟩) (Nat.le_succ _) _, by simpa using hz, ?_, ?_, ?_, by simpa using h.f0, by simpa using h.f1, by simpa using h.f2, ?_, ?_, ?_, by simpa using h.g0, by simpa using h.g1, by simpa using h.g2⟩
  · rw [World.cell?_setCell_other _ _ _ _ (by simp)]; exact h.r0
  · rw [World.cell?_setCell_other _ _ _ _ (by simp)]; exact h.r1
  · rw [World.cell?_setCell_other _ _ _ _ (by simp)]; exact h.r2
  · exact World.cell?_setCell_same _ _ _ h.x0
  · rw [World.cell?_setCell_other _ _ _ _ (by simp)]; exact h.x1
  · rw [World.cell?_setCell_other _ _ _ _ (by simp)]; exact h.x2
theorem LW.moves {w wr : World} {v v2 : Value} {e : Int} (h : LW w wr v v2 e) (v' : Value) : LW w (wr.setCell ⟨w.heap.size + 1, 1, none⟩ v') v v' e := by
  have hz := h.siz
  refine ⟨h.bel.setCell (p := ⟨w.heap.size + 1, 1, none⟩) (Nat.le_succ _) _, by simpa using hz, ?_, ?_, ?_, by simpa using h.f0, by simpa using h.f1, by simpa using h.f2, ?_, ?_, ?_, by simpa using h.g0, by simpa using h.g1, by simpa using h.g2⟩
  · rw [World.cell?_setCell_other _ _ _ _ (by simp)]; exact h.r0
  · rw [World.cell?_setCell_other _ _ _ _ (by simp)]; exact h.r1
  · rw [World.cell?_setCell_other _ _ _ _ (by simp)]; exact h.r2
  · rw [World.cell?_setCell_other _ _ _ _ (by simp)]; exact h.x0
  · exact World.cell?_setCell_same _ _ _ h.x1
  · rw [World.cell?_setCell_other _ _ _ _ (by simp)]; exact h.x2
/-- Behind the return: what was the look's is behind it. -/
theorem LW.done {w wr : World} {v v2 : Value} {e : Int} (h : LW w wr v v2 e) (a b c : Value) : Below w.heap.size w (((wr.setCell ⟨w.heap.size, 0, none⟩ a).setCell ⟨w.heap.size, 1, none⟩ b).setCell ⟨w.heap.size, 2, none⟩ c) :=
  ((h.bel.setCell (Nat.le_refl _) _).setCell (Nat.le_refl _) _).setCell (Nat.le_refl _) _
end Go.Proofs.YtmendnmmiabolaaDoor
