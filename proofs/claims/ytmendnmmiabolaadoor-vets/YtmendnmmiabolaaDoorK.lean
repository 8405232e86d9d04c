import Derived.Test.YtmendnmmiabolaaDoorJ
namespace Go.Proofs.YtmendnmmiabolaaDoor
open Go.RowKit

theorem Tryd.info113 : (Tryd.prog.info? 113).map (fun i => (i.zero, i.size, i.bytes)) = some (some (.agg #[.int .i64 0, .int .i64 0, .int .i64 0, .int .i64 0, .int .i64 0, .int .i64 0]), 6, 48) := by kernel_rfl
theorem Tryd.info116 : (Tryd.prog.info? 116).map (fun i => (i.zero, i.size, i.bytes)) = some (some (.agg #[.int .i64 0, .int .i64 0]), 2, 16) := by kernel_rfl

set_option maxRecDepth 100000 in
set_option maxHeartbeats 1000000 in
theorem segAt_any (s : ByteArray) (p : Int) (hs : s.size ≤ 300) (h0 : 0 ≤ p) (h8 : p + 7 < (s.size : Int)) (w : World) :
    Calls Tryd.prog 63 #[.string s, .int .i64 p] w fun e w' => e = .returned (.agg (sgVal s p).toArray) ∧ Below w.heap.size w w' := by
  have h1 : p < (s.size : Int) := by omega
  have i1 : 0 ≤ p + 1 := by omega
  have i2 : 0 ≤ p + 2 := by omega
  have i3 : 0 ≤ p + 3 := by omega
  have j1 : p + 1 < (s.size : Int) := by omega
  have j2 : p + 2 < (s.size : Int) := by omega
  have j3 : p + 3 < (s.size : Int) := by omega
  have e1 : IntKind.i64.wrap (p + 1) = p + 1 := wrapI (by omega) (by omega)
  have e2 : IntKind.i64.wrap (p + 2) = p + 2 := wrapI (by omega) (by omega)
  have e3 : IntKind.i64.wrap (p + 3) = p + 3 := wrapI (by omega) (by omega)
  have e4 : IntKind.i64.wrap (p + 4) = p + 4 := wrapI (by omega) (by omega)
  have e6 : IntKind.i64.wrap (p + 6) = p + 6 := wrapI (by omega) (by omega)
  have eb : ∀ j : Int, IntKind.i64.wrap (bt s j) = bt s j := fun j => wrapI (by have := bt_bd s j; omega) (by have := bt_bd s j; omega)
  have hbt := bt_of s
  go_enter Tryd.func63, Tryd.ntmps63
  go_wp2_with fail
  refine wp_region_any (by kernel_rfl) ?_
  (try (change wpAny _ _ _ _ _ _ _ (World.drew _)))
  refine wpAny_take (i := 0) (v := .string s) rfl (by kernel_rfl) (by kernel_rfl) (by kernel_rfl) (fun _ _ _ h => h) (Or.inl ⟨by kernel_rfl, ?_⟩) ?_
  · intro w; go_simp
  simp only [Act.put, List.setIfInBounds_toArray]
  refine wpAny_take (i := 1) (v := .int .i64 p) rfl (by kernel_rfl) (by kernel_rfl) (by kernel_rfl) (fun _ _ _ h => h) (Or.inl ⟨by kernel_rfl, ?_⟩) ?_
  · intro w; go_simp
  simp only [Act.put]
  refine wpAny_take (i := 2) (v := .int .u8 (bt s p)) rfl (by kernel_rfl) (by kernel_rfl) (by kernel_rfl) (fun _ _ _ h => h) (Or.inl ⟨by kernel_rfl, ?_⟩) ?_
  · intro w; go_simp
  simp only [Act.put]
  refine wpAny_take (i := 3) (v := .int .i64 (bt s p)) rfl (by kernel_rfl) (by kernel_rfl) (by kernel_rfl) (fun _ _ _ h => h) (Or.inl ⟨by kernel_rfl, ?_⟩) ?_
  · intro w; go_simp
  simp only [Act.put]
  refine wpAny_take (i := 4) (v := .string s) rfl (by kernel_rfl) (by kernel_rfl) (by kernel_rfl) (fun _ _ _ h => h) (Or.inl ⟨by kernel_rfl, ?_⟩) ?_
  · intro w; go_simp
  simp only [Act.put]
  refine wpAny_take (i := 5) (v := .int .i64 p) rfl (by kernel_rfl) (by kernel_rfl) (by kernel_rfl) (fun _ _ _ h => h) (Or.inl ⟨by kernel_rfl, ?_⟩) ?_
  · intro w; go_simp
  simp only [Act.put]
  refine wpAny_take (i := 6) (v := .int .i64 (p + 1)) rfl (by kernel_rfl) (by kernel_rfl) (by kernel_rfl) (fun _ _ _ h => h) (Or.inl ⟨by kernel_rfl, ?_⟩) ?_
  · intro w; go_simp
  simp only [Act.put]
  refine wpAny_take (i := 7) (v := .int .u8 (bt s (p + 1))) rfl (by kernel_rfl) (by kernel_rfl) (by kernel_rfl) (fun _ _ _ h => h) (Or.inl ⟨by kernel_rfl, ?_⟩) ?_
  · intro w; go_simp
  simp only [Act.put]
  refine wpAny_take (i := 8) (v := .int .i64 (bt s (p + 1))) rfl (by kernel_rfl) (by kernel_rfl) (by kernel_rfl) (fun _ _ _ h => h) (Or.inl ⟨by kernel_rfl, ?_⟩) ?_
  · intro w; go_simp
  simp only [Act.put]
  refine wpAny_take (i := 9) (v := .string s) rfl (by kernel_rfl) (by kernel_rfl) (by kernel_rfl) (fun _ _ _ h => h) (Or.inl ⟨by kernel_rfl, ?_⟩) ?_
  · intro w; go_simp
  simp only [Act.put]
  refine wpAny_take (i := 10) (v := .int .i64 p) rfl (by kernel_rfl) (by kernel_rfl) (by kernel_rfl) (fun _ _ _ h => h) (Or.inl ⟨by kernel_rfl, ?_⟩) ?_
  · intro w; go_simp
  simp only [Act.put]
  refine wpAny_take (i := 11) (v := .int .i64 (p + 2)) rfl (by kernel_rfl) (by kernel_rfl) (by kernel_rfl) (fun _ _ _ h => h) (Or.inl ⟨by kernel_rfl, ?_⟩) ?_
  · intro w; go_simp
  simp only [Act.put]
  refine wpAny_take (i := 12) (v := .int .u8 (bt s (p + 2))) rfl (by kernel_rfl) (by kernel_rfl) (by kernel_rfl) (fun _ _ _ h => h) (Or.inl ⟨by kernel_rfl, ?_⟩) ?_
  · intro w; go_simp
  simp only [Act.put]
  refine wpAny_take (i := 13) (v := .int .i64 (bt s (p + 2))) rfl (by kernel_rfl) (by kernel_rfl) (by kernel_rfl) (fun _ _ _ h => h) (Or.inl ⟨by kernel_rfl, ?_⟩) ?_
  · intro w; go_simp
  simp only [Act.put]
  refine wpAny_take (i := 14) (v := .string s) rfl (by kernel_rfl) (by kernel_rfl) (by kernel_rfl) (fun _ _ _ h => h) (Or.inl ⟨by kernel_rfl, ?_⟩) ?_
  · intro w; go_simp
  simp only [Act.put]
  refine wpAny_take (i := 15) (v := .int .i64 p) rfl (by kernel_rfl) (by kernel_rfl) (by kernel_rfl) (fun _ _ _ h => h) (Or.inl ⟨by kernel_rfl, ?_⟩) ?_
  · intro w; go_simp
  simp only [Act.put]
  refine wpAny_take (i := 16) (v := .int .i64 (p + 3)) rfl (by kernel_rfl) (by kernel_rfl) (by kernel_rfl) (fun _ _ _ h => h) (Or.inl ⟨by kernel_rfl, ?_⟩) ?_
  · intro w; go_simp
  simp only [Act.put]
  refine wpAny_take (i := 17) (v := .int .u8 (bt s (p + 3))) rfl (by kernel_rfl) (by kernel_rfl) (by kernel_rfl) (fun _ _ _ h => h) (Or.inl ⟨by kernel_rfl, ?_⟩) ?_
  · intro w; go_simp
  simp only [Act.put]
  refine wpAny_take (i := 18) (v := .int .i64 (bt s (p + 3))) rfl (by kernel_rfl) (by kernel_rfl) (by kernel_rfl) (fun _ _ _ h => h) (Or.inl ⟨by kernel_rfl, ?_⟩) ?_
  · intro w; go_simp
  simp only [Act.put]
  refine wpAny_take (i := 19) (v := .string s) rfl (by kernel_rfl) (by kernel_rfl) (by kernel_rfl) (fun _ _ _ h => h) (Or.inl ⟨by kernel_rfl, ?_⟩) ?_
  · intro w; go_simp
  simp only [Act.put]
  refine wpAny_take (i := 20) (v := .int .i64 p) rfl (by kernel_rfl) (by kernel_rfl) (by kernel_rfl) (fun _ _ _ h => h) (Or.inl ⟨by kernel_rfl, ?_⟩) ?_
  · intro w; go_simp
  simp only [Act.put]
  refine wpAny_take (i := 21) (v := .int .i64 (p + 4)) rfl (by kernel_rfl) (by kernel_rfl) (by kernel_rfl) (fun _ _ _ h => h) (Or.inl ⟨by kernel_rfl, ?_⟩) ?_
  · intro w; go_simp
  simp only [Act.put]
  refine wpAny_take (i := 23) (v := .string s) rfl (by kernel_rfl) (by kernel_rfl) (by kernel_rfl) (fun _ _ _ h => h) (Or.inl ⟨by kernel_rfl, ?_⟩) ?_
  · intro w; go_simp
  simp only [Act.put]
  refine wpAny_take (i := 24) (v := .int .i64 p) rfl (by kernel_rfl) (by kernel_rfl) (by kernel_rfl) (fun _ _ _ h => h) (Or.inl ⟨by kernel_rfl, ?_⟩) ?_
  · intro w; go_simp
  simp only [Act.put]
  refine wpAny_take (i := 25) (v := .int .i64 (p + 6)) rfl (by kernel_rfl) (by kernel_rfl) (by kernel_rfl) (fun _ _ _ h => h) (Or.inl ⟨by kernel_rfl, ?_⟩) ?_
  · intro w; go_simp
  simp only [Act.put]
  refine wpAny_ready (rs := [22]) (by kernel_rfl) (by simp) ?_
  refine AllReady.cons rfl (fun K hK => ?_) AllReady.nil
  go_simp
  go_wp2_with (go_at_call 62; refine (number_any s _ hs (by omega) (by omega) _).mono ?_; rintro e w' ⟨rfl, nq, rfl⟩)
  refine wpAny_ready (rs := [26]) (by kernel_rfl) (by simp) ?_
  refine AllReady.cons rfl (fun K hK => ?_) AllReady.nil
  go_simp
  go_wp2_with (go_at_call 62; refine (number_any s _ hs (by omega) (by omega) _).mono ?_; rintro e w' ⟨rfl, nq, rfl⟩)
  refine wpAny_take (i := 27) (v := .agg #[.int .i64 (bt s p), .int .i64 (bt s (p + 1)), .int .i64 (bt s (p + 2)), .int .i64 (bt s (p + 3)), .int .i64 (two s (p + 4)), .int .i64 (two s (p + 6))]) rfl (by kernel_rfl) (by kernel_rfl) (by kernel_rfl) (fun _ _ _ h => h) (Or.inl ⟨by kernel_rfl, ?_⟩) ?_
  · intro w; go_simp
  simp only [Act.put]
  refine wpAny_ready (rs := [28]) (by kernel_rfl) (by simp) ?_
  refine AllReady.cons rfl (fun K hK => ?_) AllReady.nil
  go_simp
  refine hK _ _ ?_; clear hK K
  refine wpAny_done (by kernel_rfl) ?_ _
  go_wp2_with fail
  refine bodyPost_ret (v := .agg #[.int .i64 (bt s p), .int .i64 (bt s (p + 1)), .int .i64 (bt s (p + 2)), .int .i64 (bt s (p + 3)), .int .i64 (two s (p + 4)), .int .i64 (two s (p + 6))]) (by simp [results, Tryd.results63, go_sem]) rfl ⟨rfl, ?_⟩
  exact ((((((below_drewN ((Below.refl _ _).alloc (Nat.le_refl _) _) _).setCell (Nat.le_refl _) _).setCell (Nat.le_refl _) _).setCell (Nat.le_refl _) _).setCell (Nat.le_refl _) _).setCell (Nat.le_refl _) _).setCell (Nat.le_refl _) _

theorem segAt_says (s : ByteArray) (p : Int) (hs : s.size ≤ 300) (h0 : 0 ≤ p) (h8 : p + 7 < (s.size : Int)) (w : World) :
    Calls Tryd.prog 63 #[.string s, .int .i64 p] w fun e w' => e = .returned (.agg #[.int .i64 (bt s p), .int .i64 (bt s (p + 1)), .int .i64 (bt s (p + 2)), .int .i64 (bt s (p + 3)), .int .i64 (two s (p + 4)), .int .i64 (two s (p + 6))]) ∧ Below w.heap.size w w' := segAt_any s p hs h0 h8 w
end Go.Proofs.YtmendnmmiabolaaDoor
