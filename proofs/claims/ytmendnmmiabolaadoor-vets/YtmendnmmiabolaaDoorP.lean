import Derived.Test.YtmendnmmiabolaaDoorJ
namespace Go.Proofs.YtmendnmmiabolaaDoor
open Go.RowKit

/-- The program's segments, as they lie in a block. -/
def SgAt (w : World) (g : Nat) (s : ByteArray) (n : Nat) : Prop :=
  ∀ k : Nat, k < n → w.cell? ⟨g, k * 6, none⟩ = some (.int .i64 (bt s (8 + 8 * (k : Int)))) ∧ w.cell? ⟨g, k * 6 + 1, none⟩ = some (.int .i64 (bt s (8 + 8 * (k : Int) + 1))) ∧ w.cell? ⟨g, k * 6 + 2, none⟩ = some (.int .i64 (bt s (8 + 8 * (k : Int) + 2))) ∧ w.cell? ⟨g, k * 6 + 3, none⟩ = some (.int .i64 (bt s (8 + 8 * (k : Int) + 3))) ∧ w.cell? ⟨g, k * 6 + 4, none⟩ = some (.int .i64 (two s (8 + 8 * (k : Int) + 4))) ∧ w.cell? ⟨g, k * 6 + 5, none⟩ = some (.int .i64 (two s (8 + 8 * (k : Int) + 6)))
/-- The program's moves. -/
def MvAt (w : World) (ad : Option Addr) (s : ByteArray) (q : Int) (m : Nat) : Prop :=
  m = 0 ∨ ∃ g, ad = some ⟨g, 0, none⟩ ∧ g < w.heap.size ∧ ∀ k : Nat, k < m → w.cell? ⟨g, k * 2, none⟩ = some (.int .i64 (two s (q + 4 * (k : Int)))) ∧ w.cell? ⟨g, k * 2 + 1, none⟩ = some (.int .i64 (two s (q + 4 * (k : Int) + 2)))

theorem sgAt_own {w : World} {base : Nat} {e : TypeId} {g n cap : Nat} {s : ByteArray} (h : w.ownsRow base e 6 (.slice (some ⟨g, 0, none⟩) n cap) n (sgVals s n)) : SgAt w g s n := by
  intro k hk
  have hc := h.cells (g := g) rfl
  refine ⟨?_, ?_, ?_, ?_, ?_, ?_⟩
  · have := hc (k * 6 + 0) _ (by rw [sgVals_get s n k 0 hk (by omega)]; rfl)
    by_cases h0 : k * 6 = 0
    · simpa [Addr.add, h0] using this
    · simpa [Addr.add, h0] using this
  · have := hc (k * 6 + 1) _ (by rw [sgVals_get s n k 1 hk (by omega)]; rfl); simpa [Addr.add] using this
  · have := hc (k * 6 + 2) _ (by rw [sgVals_get s n k 2 hk (by omega)]; rfl); simpa [Addr.add] using this
  · have := hc (k * 6 + 3) _ (by rw [sgVals_get s n k 3 hk (by omega)]; rfl); simpa [Addr.add] using this
  · have := hc (k * 6 + 4) _ (by rw [sgVals_get s n k 4 hk (by omega)]; rfl); simpa [Addr.add] using this
  · have := hc (k * 6 + 5) _ (by rw [sgVals_get s n k 5 hk (by omega)]; rfl); simpa [Addr.add] using this
theorem SgAt.mono {w w1 : World} {g n : Nat} {s : ByteArray} (h : SgAt w g s n) (hc : ∀ o v, w.cell? ⟨g, o, none⟩ = some v → w1.cell? ⟨g, o, none⟩ = some v) : SgAt w1 g s n := by
  intro k hk
  obtain ⟨h0, h1, h2, h3, h4, h5⟩ := h k hk
  exact ⟨hc _ _ h0, hc _ _ h1, hc _ _ h2, hc _ _ h3, hc _ _ h4, hc _ _ h5⟩
theorem SgAt.below {w w1 : World} {g n : Nat} {s : ByteArray} (h : SgAt w g s n) (hg : g < w.heap.size) (hb : Below w.heap.size w w1) : SgAt w1 g s n :=
  h.mono fun o _ hv => (hb.cell (p := ⟨g, o, none⟩) hg).trans hv
theorem SgAt.grown {w w2 : World} {g n : Nat} {s : ByteArray} {row : Option Nat} (h : SgAt w g s n) (hg : w.grownBy w2 row) (hne : some g ≠ row) : SgAt w2 g s n :=
  h.mono fun _ _ hv => hg.cell hv hne
theorem SgAt.setCell {w : World} {g n : Nat} {s : ByteArray} (h : SgAt w g s n) (b o : Nat) (hb : g ≠ b) (u : Value) : SgAt (w.setCell ⟨b, o, none⟩ u) g s n :=
  h.mono fun _ _ hv => by rw [World.cell?_setCell_other _ _ _ _ (by intro hh; injection hh with h1; exact hb h1.symm)]; exact hv
theorem mvVals_get (s : ByteArray) (q : Int) (n k j : Nat) (hk : k < n) (hj : j < 2) : (mvVals s q n)[k * 2 + j]? = (mvVal s (q + 4 * (k : Int)))[j]? := by
  induction n with
  | zero => omega
  | succ n ih =>
    rw [mvVals]
    by_cases h : k < n
    · rw [List.getElem?_append_left (by rw [mvVals_length]; omega), ih h]
    · have : k = n := by omega
      subst this
      rw [List.getElem?_append_right (by rw [mvVals_length]; omega), mvVals_length]
      congr 1; omega
theorem mvAt_own {w : World} {base : Nat} {e : TypeId} {ad : Option Addr} {m cap : Nat} {s : ByteArray} {q : Int} (h : w.ownsRow base e 2 (.slice ad m cap) m (mvVals s q m)) : MvAt w ad s q m := by
  by_cases hm : m = 0
  · exact .inl hm
  refine .inr ?_
  have hlt := h.lt
  obtain ⟨g, rfl⟩ : ∃ g, ad = some ⟨g, 0, none⟩ := by
    rcases h.2 with ⟨_, h2⟩ | ⟨g, cap', cur, hv, _⟩
    · omega
    · injection hv with h1; exact ⟨g, h1⟩
  refine ⟨g, rfl, (hlt g rfl).2, fun k hk => ?_⟩
  have hc := h.cells (g := g) rfl
  refine ⟨?_, ?_⟩
  · have := hc (k * 2 + 0) _ (by rw [mvVals_get s q m k 0 hk (by omega)]; rfl)
    by_cases h0 : k * 2 = 0
    · simpa [Addr.add, h0] using this
    · simpa [Addr.add, h0] using this
  · have := hc (k * 2 + 1) _ (by rw [mvVals_get s q m k 1 hk (by omega)]; rfl); simpa [Addr.add] using this
theorem MvAt.below {w w1 : World} {ad : Option Addr} {m : Nat} {s : ByteArray} {q : Int} (h : MvAt w ad s q m) (hb : Below w.heap.size w w1) : MvAt w1 ad s q m := by
  rcases h with h | ⟨g, h1, h2, h3⟩
  · exact .inl h
  · exact .inr ⟨g, h1, Nat.lt_of_lt_of_le h2 hb.size, fun k hk => ⟨(hb.cell (p := ⟨g, _, none⟩) h2).trans (h3 k hk).1, (hb.cell (p := ⟨g, _, none⟩) h2).trans (h3 k hk).2⟩⟩
theorem MvAt.setCell {w : World} {ad : Option Addr} {m : Nat} {s : ByteArray} {q : Int} (h : MvAt w ad s q m) (b o : Nat) (hb : ∀ a, ad = some a → a.block ≠ b) (u : Value) : MvAt (w.setCell ⟨b, o, none⟩ u) ad s q m := by
  rcases h with h | ⟨g, h1, h2, h3⟩
  · exact .inl h
  · have hne : ∀ o', (⟨b, o, none⟩ : Addr) ≠ ⟨g, o', none⟩ := by intro o' hh; injection hh with h4; exact hb _ h1 h4.symm
    exact .inr ⟨g, h1, by simpa using h2, fun k hk => ⟨by rw [World.cell?_setCell_other _ _ _ _ (hne _)]; exact (h3 k hk).1, by rw [World.cell?_setCell_other _ _ _ _ (hne _)]; exact (h3 k hk).2⟩⟩
end Go.Proofs.YtmendnmmiabolaaDoor
