import Derived.Test.YtmendnmmiabolaaDoorD
import Derived.Maps.AppendAt
namespace Go.Proofs.YtmendnmmiabolaaDoor
open Go.RowKit

theorem segVal_cells (w : World) (s : ByteArray) (p : Int) (t : TypeId) : ∀ j u, (segVal s p)[j]? = some u → (w.alloc (.cells (segVal s p).toArray t)).cell? ((⟨w.heap.size, 0, none⟩ : Addr).add j) = some u := by
  intro j u hj
  have hlt : j < 5 := by
    have := (List.getElem?_eq_some_iff.1 hj).1
    simpa [segVal] using this
  match j, hlt with
  | 0, _ => simp [segVal] at hj; subst hj; simp [Addr.add, segVal]
  | 1, _ => simp [segVal] at hj; subst hj; simp [Addr.add, segVal]
  | 2, _ => simp [segVal] at hj; subst hj; simp [Addr.add, segVal]
  | 3, _ => simp [segVal] at hj; subst hj; simp [Addr.add, segVal]
  | 4, _ => simp [segVal] at hj; subst hj; simp [Addr.add, segVal]
theorem segVal_cells' (w : World) (b : Nat) (hb : b = w.heap.size) (s : ByteArray) (p : Int) (t : TypeId) : ∀ j u, (segVal s p)[j]? = some u → (w.alloc (.cells (segVal s p).toArray t)).cell? ((⟨b, 0, none⟩ : Addr).add j) = some u := by
  subst hb; exact segVal_cells w s p t
theorem segVal_one (s : ByteArray) (p : Int) : ∀ u ∈ segVal s p, u.oneCell' = true := by
  intro u hu
  simp [segVal] at hu
  rcases hu with rfl | rfl | rfl | rfl | rfl <;> rfl
theorem segs_next (s : ByteArray) (fin : Int) (n : Nat) (p last : Int) (h : segBad s p last fin = .none) : segsBad s fin (n + 1) p last = segsBad s fin n (p + 8) (bt s p + bt s (p + 1)) := by
  rw [segsBad, h]
theorem segs_stop (s : ByteArray) (fin : Int) (n : Nat) (p last x : Int) (h : segBad s p last fin = some x) : segsBad s fin (n + 1) p last = some x := by
  rw [segsBad, h]

/-- Of each segment ahead of the k-th nothing is wrong: how the look goes on from there. -/
def lastEnd (s : ByteArray) : Nat → Int
  | 0 => 0
  | n + 1 => bt s (8 + 8 * (n : Int)) + bt s (8 + 8 * (n : Int) + 1)

theorem ownsRow_below {w w1 : World} {base : Nat} {e : TypeId} {size : Nat} {v : Value} {n : Nat} {xs : List Value} (h : w.ownsRow base e size v n xs) (hb : Below w.heap.size w w1) : w1.ownsRow base e size v n xs := by
  have hlt := h.lt
  obtain ⟨h1, h2⟩ := h
  refine ⟨h1, ?_⟩
  rcases h2 with h2 | ⟨g, cap, cur, hv, hbg, hg, r⟩
  · exact .inl h2
  · exact .inr ⟨g, cap, cur, hv, hbg, (hb.block g (hlt g (by rw [hv]; rfl)).2).trans hg, r⟩

end Go.Proofs.YtmendnmmiabolaaDoor
