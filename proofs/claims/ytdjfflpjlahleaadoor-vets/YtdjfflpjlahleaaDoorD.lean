import Derived.Test.YtdjfflpjlahleaaDoorA
import Derived.Deep.RegionWith
import Derived.Deep.DeepCutAuto
namespace Go.Proofs.YtdjfflpjlahleaaDoor
open Go.RowKit

theorem fill5c (x : World) (t : TypeId) (k : Nat) (hk : k = x.heap.size) (z : Value) (a b c d e : Value) :
    (((((x.alloc (.cells #[z, z, z, z, z] t)).setCell ⟨k, 0, none⟩ a).setCell ⟨k, 1, none⟩ b).setCell ⟨k, 2, none⟩ c).setCell ⟨k, 3, none⟩ d).setCell ⟨k, 4, none⟩ e = x.alloc (.cells #[a, b, c, d, e] t) := by
  rw [World.setCell_alloc_at _ _ _ _ _ hk, World.setCell_alloc_at _ _ _ _ _ hk, World.setCell_alloc_at _ _ _ _ _ hk, World.setCell_alloc_at _ _ _ _ _ hk, World.setCell_alloc_at _ _ _ _ _ hk]
  rfl
theorem setCell_drewN (x : World) (n : Nat) (a : Addr) (v : Value) : (x.drewN n).setCell a v = (x.setCell a v).drewN n := rfl
theorem alloc_drewN (x : World) (n : Nat) (o : Obj) : (x.drewN n).alloc o = (x.alloc o).drewN n := rfl
theorem fill5 (x : World) (t : TypeId) (k : Nat) (hk : k = x.heap.size) (n m : Nat) (a b c d e : Value) :
    ((((((((x.drewN n).alloc (.cells #[.int .i64 0, .int .i64 0, .int .i64 0, .int .i64 0, .int .i64 0] t)).drewN m).setCell ⟨k, 0, none⟩ a).setCell ⟨k, 1, none⟩ b).setCell ⟨k, 2, none⟩ c).setCell ⟨k, 3, none⟩ d).setCell ⟨k, 4, none⟩ e) = (x.alloc (.cells #[a, b, c, d, e] t)).drewN (n + m) := by
  rw [alloc_drewN, World.drewN_drewN, setCell_drewN, setCell_drewN, setCell_drewN, setCell_drewN, setCell_drewN, fill5c x t k hk]
theorem fill5b (x : World) (t : TypeId) (k : Nat) (hk : k = x.heap.size) (n : Nat) (a b c d e : Value) :
    (((((((x.alloc (.cells #[.int .i64 0, .int .i64 0, .int .i64 0, .int .i64 0, .int .i64 0] t)).drewN n).setCell ⟨k, 0, none⟩ a).setCell ⟨k, 1, none⟩ b).setCell ⟨k, 2, none⟩ c).setCell ⟨k, 3, none⟩ d).setCell ⟨k, 4, none⟩ e) = (x.alloc (.cells #[a, b, c, d, e] t)).drewN n := by
  rw [setCell_drewN, setCell_drewN, setCell_drewN, setCell_drewN, setCell_drewN, fill5c x t k hk]

/-- The ways through what is asked of a segment. -/
theorem seg_cases (s : ByteArray) (p last fin : Int) :
    (¬ last ≤ bt s p ∧ segBad s p last fin = some p) ∨
    (last ≤ bt s p ∧ ¬ bt s p < 32 ∧ segBad s p last fin = some p) ∨
    (last ≤ bt s p ∧ bt s p < 32 ∧
      ((¬ 1 ≤ bt s (p + 1) ∧ segBad s p last fin = some (p + 1)) ∨
       (1 ≤ bt s (p + 1) ∧ ¬ bt s (p + 1) ≤ 8 ∧ segBad s p last fin = some (p + 1)) ∨
       (1 ≤ bt s (p + 1) ∧ bt s (p + 1) ≤ 8 ∧ ¬ bt s p + bt s (p + 1) ≤ 32 ∧ segBad s p last fin = some (p + 1)) ∨
       (1 ≤ bt s (p + 1) ∧ bt s (p + 1) ≤ 8 ∧ bt s p + bt s (p + 1) ≤ 32 ∧
         ((¬ 1 ≤ bt s (p + 2) ∧ segBad s p last fin = some (p + 2)) ∨
          (1 ≤ bt s (p + 2) ∧ ¬ bt s (p + 2) ≤ 4 ∧ segBad s p last fin = some (p + 2)) ∨
          (1 ≤ bt s (p + 2) ∧ bt s (p + 2) ≤ 4 ∧
            ((¬ bt s (p + 3) = 0 ∧ segBad s p last fin = some (p + 3)) ∨
             (bt s (p + 3) = 0 ∧
               ((¬ fin ≤ two s (p + 4) ∧ segBad s p last fin = some (p + 4)) ∨
                (fin ≤ two s (p + 4) ∧ ¬ two s (p + 4) ≤ (s.size : Int) ∧ segBad s p last fin = some (p + 4)) ∨
                (fin ≤ two s (p + 4) ∧ two s (p + 4) ≤ (s.size : Int) ∧
                  ((¬ two s (p + 6) ≤ bt s (p + 1) * 32 ∧ segBad s p last fin = some (p + 6)) ∨
                   (two s (p + 6) ≤ bt s (p + 1) * 32 ∧ ¬ two s (p + 4) + two s (p + 6) ≤ (s.size : Int) ∧ segBad s p last fin = some (p + 6)) ∨
                   (two s (p + 6) ≤ bt s (p + 1) * 32 ∧ two s (p + 4) + two s (p + 6) ≤ (s.size : Int) ∧ segBad s p last fin = .none))))))))))) := by
  unfold segBad
  by_cases c1 : last ≤ bt s p
  case neg => exact Or.inl ⟨c1, by rw [if_pos (by omega)]⟩
  by_cases c2 : bt s p < 32
  case neg => exact Or.inr (Or.inl ⟨c1, c2, by rw [if_pos (by omega)]⟩)
  refine Or.inr (Or.inr ⟨c1, c2, ?_⟩); rw [if_neg (by omega)]
  by_cases c3 : 1 ≤ bt s (p + 1)
  case neg => exact Or.inl ⟨c3, by rw [if_pos (by omega)]⟩
  by_cases c4 : bt s (p + 1) ≤ 8
  case neg => exact Or.inr (Or.inl ⟨c3, c4, by rw [if_pos (by omega)]⟩)
  by_cases c5 : bt s p + bt s (p + 1) ≤ 32
  case neg => exact Or.inr (Or.inr (Or.inl ⟨c3, c4, c5, by rw [if_pos (by omega)]⟩))
  refine Or.inr (Or.inr (Or.inr ⟨c3, c4, c5, ?_⟩)); rw [if_neg (by omega)]
  by_cases c6 : 1 ≤ bt s (p + 2)
  case neg => exact Or.inl ⟨c6, by rw [if_pos (by omega)]⟩
  by_cases c7 : bt s (p + 2) ≤ 4
  case neg => exact Or.inr (Or.inl ⟨c6, c7, by rw [if_pos (by omega)]⟩)
  refine Or.inr (Or.inr ⟨c6, c7, ?_⟩); rw [if_neg (by omega)]
  by_cases c8 : bt s (p + 3) = 0
  case neg => exact Or.inl ⟨c8, by rw [if_pos c8]⟩
  refine Or.inr ⟨c8, ?_⟩; rw [if_neg (by omega)]
  by_cases c9 : fin ≤ two s (p + 4)
  case neg => exact Or.inl ⟨c9, by rw [if_pos (by omega)]⟩
  by_cases c10 : two s (p + 4) ≤ (s.size : Int)
  case neg => exact Or.inr (Or.inl ⟨c9, c10, by rw [if_pos (by omega)]⟩)
  refine Or.inr (Or.inr ⟨c9, c10, ?_⟩); rw [if_neg (by omega)]
  by_cases c11 : two s (p + 6) ≤ bt s (p + 1) * 32
  case neg => exact Or.inl ⟨c11, by rw [if_pos (by omega)]⟩
  by_cases c12 : two s (p + 4) + two s (p + 6) ≤ (s.size : Int)
  case neg => exact Or.inr (Or.inl ⟨c11, c12, by rw [if_pos (by omega)]⟩)
  exact Or.inr (Or.inr ⟨c11, c12, by rw [if_neg (by omega)]⟩)

set_option maxRecDepth 100000 in
set_option maxHeartbeats 4000000 in
theorem seg_any (s : ByteArray) (p last fin : Int) (hs : s.size ≤ 300) (h0 : 0 ≤ p) (h8 : p + 7 < (s.size : Int)) (w : World) :
    Calls Tryd.prog 60 #[.string s, .int .i64 p, .int .i64 last, .int .i64 fin] w fun e w' => e = outc (segBad s p last fin) (.agg (segVal s p).toArray) ∧ Below w.heap.size w w' := by
  have h1 : p < (s.size : Int) := by omega
  have i1 : 0 ≤ p + 1 := by omega
  have i2 : 0 ≤ p + 2 := by omega
  have i3 : 0 ≤ p + 3 := by omega
  have j1 : p + 1 < (s.size : Int) := by omega
  have j2 : p + 2 < (s.size : Int) := by omega
  have j3 : p + 3 < (s.size : Int) := by omega
  have e1 : IntKind.i64.wrap (p + 1) = p + 1 := wrapI (by omega) (by omega)
  have e2 : IntKind.i64.wrap (p + 2) = p + 2 := wrapI (by omega) (by omega)
  have e4 : IntKind.i64.wrap (p + 4) = p + 4 := wrapI (by omega) (by omega)
  have e6 : IntKind.i64.wrap (p + 6) = p + 6 := wrapI (by omega) (by omega)
  have eb : ∀ j : Int, IntKind.i64.wrap (bt s j) = bt s j := fun j => wrapI (by have := bt_bd s j; omega) (by have := bt_bd s j; omega)
  have hbt := bt_of s
  go_enter Tryd.func60, Tryd.ntmps60
  go_upto_region 1 with fail
  go_cut [9] (fun v wc => v = .pointer (some ⟨w.heap.size + 1, 0, none⟩) ∧ ∃ n, wc = ((w.alloc (.cells #[.int .i64 0, .int .i64 0, .int .i64 0, .int .i64 0, .int .i64 0] 108)).alloc (.cells (segVal s p).toArray 108)).drewN n)
  case first =>
    refine wp_region_any (by kernel_rfl) ?_
    (try (change wpAny _ _ _ _ _ _ _ (World.drew _)))
    refine wpAny_take (i := 0) (v := .string s) rfl (by kernel_rfl) (by kernel_rfl) (by kernel_rfl) (fun _ _ _ h => h) (Or.inl ⟨by rfl, ?_⟩) ?_
    · intro w; go_simp
    simp only [Act.put, List.setIfInBounds_toArray]
    refine wpAny_take (i := 1) (v := .int .i64 p) rfl (by kernel_rfl) (by kernel_rfl) (by kernel_rfl) (fun _ _ _ h => h) (Or.inl ⟨by rfl, ?_⟩) ?_
    · intro w; go_simp
    simp only [Act.put]
    refine wpAny_take (i := 2) (v := .int .u8 (bt s p)) rfl (by kernel_rfl) (by kernel_rfl) (by kernel_rfl) (fun _ _ _ h => h) (Or.inl ⟨by rfl, ?_⟩) ?_
    · intro w; go_simp
    simp only [Act.put]
    refine wpAny_take (i := 3) (v := .int .i64 (bt s p)) rfl (by kernel_rfl) (by kernel_rfl) (by kernel_rfl) (fun _ _ _ h => h) (Or.inl ⟨by rfl, ?_⟩) ?_
    · intro w; go_simp
    simp only [Act.put]
    refine wpAny_take (i := 4) (v := .string s) rfl (by kernel_rfl) (by kernel_rfl) (by kernel_rfl) (fun _ _ _ h => h) (Or.inl ⟨by rfl, ?_⟩) ?_
    · intro w; go_simp
    simp only [Act.put]
    refine wpAny_take (i := 5) (v := .int .i64 p) rfl (by kernel_rfl) (by kernel_rfl) (by kernel_rfl) (fun _ _ _ h => h) (Or.inl ⟨by rfl, ?_⟩) ?_
    · intro w; go_simp
    simp only [Act.put]
    refine wpAny_take (i := 6) (v := .int .i64 (p + 1)) rfl (by kernel_rfl) (by kernel_rfl) (by kernel_rfl) (fun _ _ _ h => h) (Or.inl ⟨by rfl, ?_⟩) ?_
    · intro w; go_simp
    simp only [Act.put]
    refine wpAny_take (i := 7) (v := .int .u8 (bt s (p + 1))) rfl (by kernel_rfl) (by kernel_rfl) (by kernel_rfl) (fun _ _ _ h => h) (Or.inl ⟨by rfl, ?_⟩) ?_
    · intro w; go_simp
    simp only [Act.put]
    refine wpAny_take (i := 8) (v := .int .i64 (bt s (p + 1))) rfl (by kernel_rfl) (by kernel_rfl) (by kernel_rfl) (fun _ _ _ h => h) (Or.inl ⟨by rfl, ?_⟩) ?_
    · intro w; go_simp
    simp only [Act.put]
    refine wpAny_take (i := 9) (v := .string s) rfl (by kernel_rfl) (by kernel_rfl) (by kernel_rfl) (fun _ _ _ h => h) (Or.inl ⟨by rfl, ?_⟩) ?_
    · intro w; go_simp
    simp only [Act.put]
    refine wpAny_take (i := 10) (v := .int .i64 p) rfl (by kernel_rfl) (by kernel_rfl) (by kernel_rfl) (fun _ _ _ h => h) (Or.inl ⟨by rfl, ?_⟩) ?_
    · intro w; go_simp
    simp only [Act.put]
    refine wpAny_take (i := 11) (v := .int .i64 (p + 2)) rfl (by kernel_rfl) (by kernel_rfl) (by kernel_rfl) (fun _ _ _ h => h) (Or.inl ⟨by rfl, ?_⟩) ?_
    · intro w; go_simp
    simp only [Act.put]
    refine wpAny_take (i := 12) (v := .int .u8 (bt s (p + 2))) rfl (by kernel_rfl) (by kernel_rfl) (by kernel_rfl) (fun _ _ _ h => h) (Or.inl ⟨by rfl, ?_⟩) ?_
    · intro w; go_simp
    simp only [Act.put]
    refine wpAny_take (i := 13) (v := .int .i64 (bt s (p + 2))) rfl (by kernel_rfl) (by kernel_rfl) (by kernel_rfl) (fun _ _ _ h => h) (Or.inl ⟨by rfl, ?_⟩) ?_
    · intro w; go_simp
    simp only [Act.put]
    refine wpAny_take (i := 14) (v := .string s) rfl (by kernel_rfl) (by kernel_rfl) (by kernel_rfl) (fun _ _ _ h => h) (Or.inl ⟨by rfl, ?_⟩) ?_
    · intro w; go_simp
    simp only [Act.put]
    refine wpAny_take (i := 15) (v := .int .i64 p) rfl (by kernel_rfl) (by kernel_rfl) (by kernel_rfl) (fun _ _ _ h => h) (Or.inl ⟨by rfl, ?_⟩) ?_
    · intro w; go_simp
    simp only [Act.put]
    refine wpAny_take (i := 16) (v := .int .i64 (p + 4)) rfl (by kernel_rfl) (by kernel_rfl) (by kernel_rfl) (fun _ _ _ h => h) (Or.inl ⟨by rfl, ?_⟩) ?_
    · intro w; go_simp
    simp only [Act.put]
    refine wpAny_take (i := 18) (v := .string s) rfl (by kernel_rfl) (by kernel_rfl) (by kernel_rfl) (fun _ _ _ h => h) (Or.inl ⟨by rfl, ?_⟩) ?_
    · intro w; go_simp
    simp only [Act.put]
    refine wpAny_take (i := 19) (v := .int .i64 p) rfl (by kernel_rfl) (by kernel_rfl) (by kernel_rfl) (fun _ _ _ h => h) (Or.inl ⟨by rfl, ?_⟩) ?_
    · intro w; go_simp
    simp only [Act.put]
    refine wpAny_take (i := 20) (v := .int .i64 (p + 6)) rfl (by kernel_rfl) (by kernel_rfl) (by kernel_rfl) (fun _ _ _ h => h) (Or.inl ⟨by rfl, ?_⟩) ?_
    · intro w; go_simp
    simp only [Act.put]
    refine wpAny_ready (rs := [17, 23]) (by kernel_rfl) (by simp) ?_
    refine AllReady.cons rfl (fun K hK => ?_) (AllReady.cons rfl (fun K hK => ?_) AllReady.nil)
    ·
      go_simp
      go_wp2_with (go_at_call 51; refine (number_any s _ hs (by omega) (by omega) _).mono ?_; rintro e w' ⟨rfl, nq, rfl⟩)
      refine wpAny_ready (rs := [21, 23]) (by kernel_rfl) (by simp) ?_
      refine AllReady.cons rfl (fun K hK => ?_) (AllReady.cons rfl (fun K hK => ?_) AllReady.nil)
      ·
        go_simp
        go_wp2_with (go_at_call 51; refine (number_any s _ hs (by omega) (by omega) _).mono ?_; rintro e w' ⟨rfl, nq, rfl⟩)
        refine wpAny_take (i := 22) (v := .agg #[.int .i64 (bt s p), .int .i64 (bt s (p + 1)), .int .i64 (bt s (p + 2)), .int .i64 (two s (p + 4)), .int .i64 (two s (p + 6))]) rfl (by kernel_rfl) (by kernel_rfl) (by kernel_rfl) (fun _ _ _ h => h) (Or.inl ⟨by rfl, ?_⟩) ?_
        · intro w; go_simp
        simp only [Act.put]
        refine wpAny_ready (rs := [23]) (by kernel_rfl) (by simp) ?_
        refine AllReady.cons rfl (fun K hK => ?_) AllReady.nil
        ·
          go_simp
          refine hK _ _ ?_; clear hK K
          refine wpAny_ready (rs := [24]) (by kernel_rfl) (by simp) ?_
          refine AllReady.cons rfl (fun K hK => ?_) AllReady.nil
          ·
            go_simp
            refine hK _ _ ?_; clear hK K
            refine wpAny_done (by kernel_rfl) ?_ _
            go_wp2_with fail; go_meet; exact ⟨rfl, _, rfl⟩
      ·
        go_simp
        refine hK _ _ ?_; clear hK K
        refine wpAny_ready (rs := [21]) (by kernel_rfl) (by simp) ?_
        refine AllReady.cons rfl (fun K hK => ?_) AllReady.nil
        ·
          go_simp
          go_wp2_with (go_at_call 51; refine (number_any s _ hs (by omega) (by omega) _).mono ?_; rintro e w' ⟨rfl, nq, rfl⟩)
          refine wpAny_take (i := 22) (v := .agg #[.int .i64 (bt s p), .int .i64 (bt s (p + 1)), .int .i64 (bt s (p + 2)), .int .i64 (two s (p + 4)), .int .i64 (two s (p + 6))]) rfl (by kernel_rfl) (by kernel_rfl) (by kernel_rfl) (fun _ _ _ h => h) (Or.inl ⟨by rfl, ?_⟩) ?_
          · intro w; go_simp
          simp only [Act.put]
          refine wpAny_ready (rs := [24]) (by kernel_rfl) (by simp) ?_
          refine AllReady.cons rfl (fun K hK => ?_) AllReady.nil
          ·
            go_simp
            refine hK _ _ ?_; clear hK K
            refine wpAny_done (by kernel_rfl) ?_ _
            go_wp2_with fail; go_meet; exact ⟨rfl, _, fill5 (w.alloc _) 108 _ (by simp) (1 + _) _ _ _ _ _ _⟩
    ·
      go_simp
      refine hK _ _ ?_; clear hK K
      refine wpAny_ready (rs := [17]) (by kernel_rfl) (by simp) ?_
      refine AllReady.cons rfl (fun K hK => ?_) AllReady.nil
      ·
        go_simp
        go_wp2_with (go_at_call 51; refine (number_any s _ hs (by omega) (by omega) _).mono ?_; rintro e w' ⟨rfl, nq, rfl⟩)
        refine wpAny_ready (rs := [21]) (by kernel_rfl) (by simp) ?_
        refine AllReady.cons rfl (fun K hK => ?_) AllReady.nil
        ·
          go_simp
          go_wp2_with (go_at_call 51; refine (number_any s _ hs (by omega) (by omega) _).mono ?_; rintro e w' ⟨rfl, nq, rfl⟩)
          refine wpAny_take (i := 22) (v := .agg #[.int .i64 (bt s p), .int .i64 (bt s (p + 1)), .int .i64 (bt s (p + 2)), .int .i64 (two s (p + 4)), .int .i64 (two s (p + 6))]) rfl (by kernel_rfl) (by kernel_rfl) (by kernel_rfl) (fun _ _ _ h => h) (Or.inl ⟨by rfl, ?_⟩) ?_
          · intro w; go_simp
          simp only [Act.put]
          refine wpAny_ready (rs := [24]) (by kernel_rfl) (by simp) ?_
          refine AllReady.cons rfl (fun K hK => ?_) AllReady.nil
          ·
            go_simp
            refine hK _ _ ?_; clear hK K
            refine wpAny_done (by kernel_rfl) ?_ _
            go_wp2_with fail; go_meet; exact ⟨rfl, _, fill5b (w.alloc _) 108 _ (by simp) _ _ _ _ _ _⟩
  case rest =>
    obtain ⟨rfl, n, rfl⟩ := hcut
    have base : Hid (Below w.heap.size w (((w.alloc (.cells #[.int .i64 0, .int .i64 0, .int .i64 0, .int .i64 0, .int .i64 0] 108)).alloc (.cells (segVal s p).toArray 108)).drewN n)) := below_drewN (((Below.refl _ _).alloc (Nat.le_refl _) _).alloc (by simp) _) n
    have b0 := bt_bd s p
    have b1 := bt_bd s (p + 1)
    have b2 := bt_bd s (p + 2)
    have b4 := two_bd s (p + 4)
    have b6 := two_bd s (p + 6)
    clear e1 e2 e4 e6 eb
    simp only [segVal]
    rcases seg_cases s p last fin with ⟨c1, hB⟩ | ⟨c1, c2, hB⟩ | ⟨c1, c2, ⟨c3, hB⟩ | ⟨c3, c4, hB⟩ | ⟨c3, c4, c5, hB⟩ | ⟨c3, c4, c5, ⟨c6, hB⟩ | ⟨c6, c7, hB⟩ | ⟨c6, c7, ⟨c8, hB⟩ | ⟨c8, ⟨c9, hB⟩ | ⟨c9, c10, hB⟩ | ⟨c9, c10, ⟨c11, hB⟩ | ⟨c11, c12, hB⟩ | ⟨c11, c12, hB⟩⟩⟩⟩⟩⟩
    · have HB : Hid (segBad s p last fin = some p) := hB
      clear hB
      go_wp2_with (first | (go_at_call_of 47 (Value.bool true); refine (demand_yes _ _).mono ?_; rintro e w' ⟨rfl, rfl⟩) | (go_at_call_of 47 (Value.bool false); refine (demand_no _ _).mono ?_; rintro e w' ⟨rfl, rfl⟩) | (go_at_call 61; refine (end_any _ _ _ _ _ _ (by omega) (by omega)).mono ?_; rintro e w' ⟨rfl, hb⟩; obtain ⟨hcc, hff⟩ := bcell hb))
      exact ⟨rfl, by rw [HB.out]; rfl, base.out⟩
    · have HB : Hid (segBad s p last fin = some p) := hB
      clear hB
      go_wp2_with (first | (go_at_call_of 47 (Value.bool true); refine (demand_yes _ _).mono ?_; rintro e w' ⟨rfl, rfl⟩) | (go_at_call_of 47 (Value.bool false); refine (demand_no _ _).mono ?_; rintro e w' ⟨rfl, rfl⟩) | (go_at_call 61; refine (end_any _ _ _ _ _ _ (by omega) (by omega)).mono ?_; rintro e w' ⟨rfl, hb⟩; obtain ⟨hcc, hff⟩ := bcell hb))
      exact ⟨rfl, by rw [HB.out]; rfl, base.out⟩
    · have HB : Hid (segBad s p last fin = some (p + 1)) := hB
      clear hB
      go_wp2_with (first | (go_at_call_of 47 (Value.bool true); refine (demand_yes _ _).mono ?_; rintro e w' ⟨rfl, rfl⟩) | (go_at_call_of 47 (Value.bool false); refine (demand_no _ _).mono ?_; rintro e w' ⟨rfl, rfl⟩) | (go_at_call 61; refine (end_any _ _ _ _ _ _ (by omega) (by omega)).mono ?_; rintro e w' ⟨rfl, hb⟩; obtain ⟨hcc, hff⟩ := bcell hb))
      exact ⟨rfl, by rw [HB.out]; rfl, base.out⟩
    · have HB : Hid (segBad s p last fin = some (p + 1)) := hB
      clear hB
      go_wp2_with (first | (go_at_call_of 47 (Value.bool true); refine (demand_yes _ _).mono ?_; rintro e w' ⟨rfl, rfl⟩) | (go_at_call_of 47 (Value.bool false); refine (demand_no _ _).mono ?_; rintro e w' ⟨rfl, rfl⟩) | (go_at_call 61; refine (end_any _ _ _ _ _ _ (by omega) (by omega)).mono ?_; rintro e w' ⟨rfl, hb⟩; obtain ⟨hcc, hff⟩ := bcell hb))
      exact ⟨rfl, by rw [HB.out]; rfl, base.out⟩
    · have HB : Hid (segBad s p last fin = some (p + 1)) := hB
      clear hB
      have d5 : decide (bt s p + bt s (p + 1) ≤ 32) = false := by simpa using c5
      go_wp2_with (first | (go_at_call_of 47 (Value.bool true); refine (demand_yes _ _).mono ?_; rintro e w' ⟨rfl, rfl⟩) | (go_at_call_of 47 (Value.bool false); refine (demand_no _ _).mono ?_; rintro e w' ⟨rfl, rfl⟩) | (go_at_call 61; refine (end_any _ _ _ _ _ _ (by omega) (by omega)).mono ?_; rintro e w' ⟨rfl, hb⟩; obtain ⟨hcc, hff⟩ := bcell hb))
      exact ⟨rfl, by rw [HB.out]; rfl, base.out.trans (hb.mono (by simp; omega))⟩
    · have HB : Hid (segBad s p last fin = some (p + 2)) := hB
      clear hB
      go_wp2_with (first | (go_at_call_of 47 (Value.bool true); refine (demand_yes _ _).mono ?_; rintro e w' ⟨rfl, rfl⟩) | (go_at_call_of 47 (Value.bool false); refine (demand_no _ _).mono ?_; rintro e w' ⟨rfl, rfl⟩) | (go_at_call 61; refine (end_any _ _ _ _ _ _ (by omega) (by omega)).mono ?_; rintro e w' ⟨rfl, hb⟩; obtain ⟨hcc, hff⟩ := bcell hb))
      exact ⟨rfl, by rw [HB.out]; rfl, base.out.trans (hb.mono (by simp; omega))⟩
    · have HB : Hid (segBad s p last fin = some (p + 2)) := hB
      clear hB
      have d7 : decide (bt s (p + 2) ≤ 4) = false := by simpa using c7
      go_wp2_with (first | (go_at_call_of 47 (Value.bool true); refine (demand_yes _ _).mono ?_; rintro e w' ⟨rfl, rfl⟩) | (go_at_call_of 47 (Value.bool false); refine (demand_no _ _).mono ?_; rintro e w' ⟨rfl, rfl⟩) | (go_at_call 61; refine (end_any _ _ _ _ _ _ (by omega) (by omega)).mono ?_; rintro e w' ⟨rfl, hb⟩; obtain ⟨hcc, hff⟩ := bcell hb))
      exact ⟨rfl, by rw [HB.out]; rfl, base.out.trans (hb.mono (by simp; omega))⟩
    · have HB : Hid (segBad s p last fin = some (p + 3)) := hB
      clear hB
      have d8 : (bt s (p + 3) == 0) = false := by simpa using c8
      go_wp2_with (first | (go_at_call_of 47 (Value.bool true); refine (demand_yes _ _).mono ?_; rintro e w' ⟨rfl, rfl⟩) | (go_at_call_of 47 (Value.bool false); refine (demand_no _ _).mono ?_; rintro e w' ⟨rfl, rfl⟩) | (go_at_call 61; refine (end_any _ _ _ _ _ _ (by omega) (by omega)).mono ?_; rintro e w' ⟨rfl, hb⟩; obtain ⟨hcc, hff⟩ := bcell hb))
      exact ⟨rfl, by rw [HB.out]; rfl, base.out.trans (hb.mono (by simp; omega))⟩
    · have HB : Hid (segBad s p last fin = some (p + 4)) := hB
      clear hB
      have d8 : (bt s (p + 3) == 0) = true := by simpa using c8
      go_wp2_with (first | (go_at_call_of 47 (Value.bool true); refine (demand_yes _ _).mono ?_; rintro e w' ⟨rfl, rfl⟩) | (go_at_call_of 47 (Value.bool false); refine (demand_no _ _).mono ?_; rintro e w' ⟨rfl, rfl⟩) | (go_at_call 61; refine (end_any _ _ _ _ _ _ (by omega) (by omega)).mono ?_; rintro e w' ⟨rfl, hb⟩; obtain ⟨hcc, hff⟩ := bcell hb))
      exact ⟨rfl, by rw [HB.out]; rfl, base.out.trans (hb.mono (by simp; omega))⟩
    · have HB : Hid (segBad s p last fin = some (p + 4)) := hB
      clear hB
      have d8 : (bt s (p + 3) == 0) = true := by simpa using c8
      clear c8
      have d10 : decide (two s (p + 4) ≤ (s.size : Int)) = false := by simpa using c10
      go_wp2_with (first | (go_at_call_of 47 (Value.bool true); refine (demand_yes _ _).mono ?_; rintro e w' ⟨rfl, rfl⟩) | (go_at_call_of 47 (Value.bool false); refine (demand_no _ _).mono ?_; rintro e w' ⟨rfl, rfl⟩) | (go_at_call 61; refine (end_any _ _ _ _ _ _ (by omega) (by omega)).mono ?_; rintro e w' ⟨rfl, hb⟩; obtain ⟨hcc, hff⟩ := bcell hb))
      exact ⟨rfl, by rw [HB.out]; rfl, base.out.trans (hb.mono (by simp; omega))⟩
    · have HB : Hid (segBad s p last fin = some (p + 6)) := hB
      clear hB
      have d8 : (bt s (p + 3) == 0) = true := by simpa using c8
      clear c8
      go_wp2_with (first | (go_at_call_of 47 (Value.bool true); refine (demand_yes _ _).mono ?_; rintro e w' ⟨rfl, rfl⟩) | (go_at_call_of 47 (Value.bool false); refine (demand_no _ _).mono ?_; rintro e w' ⟨rfl, rfl⟩) | (go_at_call 61; refine (end_any _ _ _ _ _ _ (by omega) (by omega)).mono ?_; rintro e w' ⟨rfl, hb⟩; obtain ⟨hcc, hff⟩ := bcell hb))
      exact ⟨rfl, by rw [HB.out]; rfl, base.out.trans (hb.mono (by simp; omega))⟩
    · have HB : Hid (segBad s p last fin = some (p + 6)) := hB
      clear hB
      have d8 : (bt s (p + 3) == 0) = true := by simpa using c8
      clear c8
      have d12 : decide (two s (p + 4) + two s (p + 6) ≤ (s.size : Int)) = false := by simpa using c12
      go_wp2_with (first | (go_at_call_of 47 (Value.bool true); refine (demand_yes _ _).mono ?_; rintro e w' ⟨rfl, rfl⟩) | (go_at_call_of 47 (Value.bool false); refine (demand_no _ _).mono ?_; rintro e w' ⟨rfl, rfl⟩) | (go_at_call 61; refine (end_any _ _ _ _ _ _ (by omega) (by omega)).mono ?_; rintro e w' ⟨rfl, hb⟩; obtain ⟨hcc, hff⟩ := bcell hb))
      exact ⟨rfl, by rw [HB.out]; rfl, base.out.trans (hb.mono (by simp; omega))⟩
    · have HB : Hid (segBad s p last fin = .none) := hB
      clear hB
      have d8 : (bt s (p + 3) == 0) = true := by simpa using c8
      clear c8
      go_wp2_with (first | (go_at_call_of 47 (Value.bool true); refine (demand_yes _ _).mono ?_; rintro e w' ⟨rfl, rfl⟩) | (go_at_call_of 47 (Value.bool false); refine (demand_no _ _).mono ?_; rintro e w' ⟨rfl, rfl⟩) | (go_at_call 61; refine (end_any _ _ _ _ _ _ (by omega) (by omega)).mono ?_; rintro e w' ⟨rfl, hb⟩; obtain ⟨hcc, hff⟩ := bcell hb))
      have gz : ∀ j, j < 5 → w'.cell? ⟨w.heap.size, j, none⟩ = some (.int .i64 0) := by
        intro j hj
        rw [hcc _ _ (by simp; omega)]
        match j, hj with
        | 0, _ => simp [go_sem]
        | 1, _ => simp [go_sem]
        | 2, _ => simp [go_sem]
        | 3, _ => simp [go_sem]
        | 4, _ => simp [go_sem]
      have g0 := gz 0 (by omega)
      have g1 := gz 1 (by omega)
      have g2 := gz 2 (by omega)
      have g3 := gz 3 (by omega)
      have g4 := gz 4 (by omega)
      refine bodyPost_ret (v := .agg #[.int .i64 (bt s p), .int .i64 (bt s (p + 1)), .int .i64 (bt s (p + 2)), .int .i64 (two s (p + 4)), .int .i64 (two s (p + 6))]) (by simp [results, Tryd.results60, go_sem, g0, g1, g2, g3, g4]) rfl ⟨by rw [HB.out]; rfl, ?_⟩
      exact (((((base.out.trans (hb.mono (by simp; omega))).setCell (Nat.le_refl _) _).setCell (Nat.le_refl _) _).setCell (Nat.le_refl _) _).setCell (Nat.le_refl _) _).setCell (Nat.le_refl _) _
end Go.Proofs.YtdjfflpjlahleaaDoor
