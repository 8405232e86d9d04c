import Derived.Test.YtmendnmmiabolaaDoorA
import Derived.Deep.RegionWith
import Derived.Deep.DeepCutAuto
namespace Go.Proofs.YtmendnmmiabolaaDoor
open Go.RowKit

theorem fill5c (x : World) (t : TypeId) (k : Nat) (hk : k = x.heap.size) (z : Value) (a b c d e : Value) :
    (((((x.alloc (.cells #[z, z, z, z, z] t)).setCell ⟨k, 0, none⟩ a).setCell ⟨k, 1, none⟩ b).setCell ⟨k, 2, none⟩ c).setCell ⟨k, 3, none⟩ d).setCell ⟨k, 4, none⟩ e = x.alloc (.cells #[a, b, c, d, e] t) := by
  rw [World.setCell_alloc_at _ _ _ _ _ hk, World.setCell_alloc_at _ _ _ _ _ hk, World.setCell_alloc_at _ _ _ _ _ hk, World.setCell_alloc_at _ _ _ _ _ hk, World.setCell_alloc_at _ _ _ _ _ hk]
  rfl
theorem setCell_drewN (x : World) (n : Nat) (a : Addr) (v : Value) : (x.drewN n).setCell a v = (x.setCell a v).drewN n := rfl
theorem alloc_drewN (x : World) (n : Nat) (o : Obj) : (x.drewN n).alloc o = (x.alloc o).drewN n := rfl
theorem fill5 (x : World) (t : TypeId) (k : Nat) (hk : k = x.heap.size) (n m : Nat) (a b c d e : Value) :
    ((((((((x.drewN n).alloc (.cells #[.int .i64 0, .int .i64 0, .int .i64 0, .int .i64 0, .int .i64 0] t)).drewN m).setCell ⟨k, 0, none⟩ a).setCell ⟨k, 1, none⟩ b).setCell ⟨k, 2, none⟩ c).setCell ⟨k, 3, none⟩ d).setCell ⟨k, 4, none⟩ e) = (x.alloc (.cells #[a, b, c, d, e] t)).drewN (n + m) := by
  rw [alloc_drewN, World.drewN_drewN, setCell_drewN, setCell_drewN, setCell_drewN, setCell_drewN, setCell_drewN, fill5c x t k hk]
theorem fill5b (x : World) (t : TypeId) (k : Nat) (hk : k = x.heap.size) (n : Nat) (a b c d e : Value) :
    (((((((x.alloc (.cells #[.int .i64 0, .int .i64 0, .int .i64 0, .int .i64 0, .int .i64 0] t)).drewN n).setCell ⟨k, 0, none⟩ a).setCell ⟨k, 1, none⟩ b).setCell ⟨k, 2, none⟩ c).setCell ⟨k, 3, none⟩ d).setCell ⟨k, 4, none⟩ e) = (x.alloc (.cells #[a, b, c, d, e] t)).drewN n := by
  rw [setCell_drewN, setCell_drewN, setCell_drewN, setCell_drewN, setCell_drewN, fill5c x t k hk]

/-- The ways through what is asked of a segment. -/
theorem seg_cases (s : ByteArray) (p last fin : Int) :
    (¬ last ≤ bt s p ∧ segBad s p last fin = some p) ∨
    (last ≤ bt s p ∧ ¬ bt s p < 32 ∧ segBad s p last fin = some p) ∨
    (last ≤ bt s p ∧ bt s p < 32 ∧
      ((¬ 1 ≤ bt s (p + 1) ∧ segBad s p last fin = some (p + 1)) ∨
       (1 ≤ bt s (p + 1) ∧ ¬ bt s (p + 1) ≤ 8 ∧ segBad s p last fin = some (p + 1)) ∨
       (1 ≤ bt s (p + 1) ∧ bt s (p + 1) ≤ 8 ∧ ¬ bt s p + bt s (p + 1) ≤ 32 ∧ segBad s p last fin = some (p + 1)) ∨
       (1 ≤ bt s (p + 1) ∧ bt s (p + 1) ≤ 8 ∧ bt s p + bt s (p + 1) ≤ 32 ∧
         ((¬ 1 ≤ bt s (p + 2) ∧ segBad s p last fin = some (p + 2)) ∨
          (1 ≤ bt s (p + 2) ∧ ¬ bt s (p + 2) ≤ 4 ∧ segBad s p last fin = some (p + 2)) ∨
          (1 ≤ bt s (p + 2) ∧ bt s (p + 2) ≤ 4 ∧
            ((¬ bt s (p + 3) = 0 ∧ segBad s p last fin = some (p + 3)) ∨
             (bt s (p + 3) = 0 ∧
               ((¬ fin ≤ two s (p + 4) ∧ segBad s p last fin = some (p + 4)) ∨
                (fin ≤ two s (p + 4) ∧ ¬ two s (p + 4) ≤ (s.size : Int) ∧ segBad s p last fin = some (p + 4)) ∨
                (fin ≤ two s (p + 4) ∧ two s (p + 4) ≤ (s.size : Int) ∧
                  ((¬ two s (p + 6) ≤ bt s (p + 1) * 32 ∧ segBad s p last fin = some (p + 6)) ∨
                   (two s (p + 6) ≤ bt s (p + 1) * 32 ∧ ¬ two s (p + 4) + two s (p + 6) ≤ (s.size : Int) ∧ segBad s p last fin = some (p + 6)) ∨
                   (two s (p + 6) ≤ bt s (p + 1) * 32 ∧ two s (p + 4) + two s (p + 6) ≤ (s.size : Int) ∧ segBad s p last fin = .none))))))))))) := by
  unfold segBad
  by_cases c1 : last ≤ bt s p
  case neg => exact Or.inl ⟨c1, by rw [if_pos (by omega)]⟩
  by_cases c2 : bt s p < 32
  case neg => exact Or.inr (Or.inl ⟨c1, c2, by rw [if_pos (by omega)]⟩)
  refine Or.inr (Or.inr ⟨c1, c2, ?_⟩); rw [if_neg (by omega)]
  by_cases c3 : 1 ≤ bt s (p + 1)
  case neg => exact Or.inl ⟨c3, by rw [if_pos (by omega)]⟩
  by_cases c4 : bt s (p + 1) ≤ 8
  case neg => exact Or.inr (Or.inl ⟨c3, c4, by rw [if_pos (by omega)]⟩)
  by_cases c5 : bt s p + bt s (p + 1) ≤ 32
  case neg => exact Or.inr (Or.inr (Or.inl ⟨c3, c4, c5, by rw [if_pos (by omega)]⟩))
  refine Or.inr (Or.inr (Or.inr ⟨c3, c4, c5, ?_⟩)); rw [if_neg (by omega)]
  by_cases c6 : 1 ≤ bt s (p + 2)
  case neg => exact Or.inl ⟨c6, by rw [if_pos (by omega)]⟩
  by_cases c7 : bt s (p + 2) ≤ 4
  case neg => exact Or.inr (Or.inl ⟨c6, c7, by rw [if_pos (by omega)]⟩)
  refine Or.inr (Or.inr ⟨c6, c7, ?_⟩); rw [if_neg (by omega)]
  by_cases c8 : bt s (p + 3) = 0
  case neg => exact Or.inl ⟨c8, by rw [if_pos c8]⟩
  refine Or.inr ⟨c8, ?_⟩; rw [if_neg (by omega)]
  by_cases c9 : fin ≤ two s (p + 4)
  case neg => exact Or.inl ⟨c9, by rw [if_pos (by omega)]⟩
  by_cases c10 : two s (p + 4) ≤ (s.size : Int)
  case neg => exact Or.inr (Or.inl ⟨c9, c10, by rw [if_pos (by omega)]⟩)
  refine Or.inr (Or.inr ⟨c9, c10, ?_⟩); rw [if_neg (by omega)]
  by_cases c11 : two s (p + 6) ≤ bt s (p + 1) * 32
  case neg => exact Or.inl ⟨c11, by rw [if_pos (by omega)]⟩
  by_cases c12 : two s (p + 4) + two s (p + 6) ≤ (s.size : Int)
  case neg => exact Or.inr (Or.inl ⟨c11, c12, by rw [if_pos (by omega)]⟩)
  exact Or.inr (Or.inr ⟨c11, c12, by rw [if_neg (by omega)]⟩)

end Go.Proofs.YtmendnmmiabolaaDoor
