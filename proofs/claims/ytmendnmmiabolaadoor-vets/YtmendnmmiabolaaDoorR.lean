import Derived.Test.YtmendnmmiabolaaDoorF
namespace Go.Proofs.YtmendnmmiabolaaDoor
open Go.RowKit

/-- What the document's own look at a segment answers for the place. -/
def segAns : Option Int → Int
  | .none => -1
  | .some x => x

set_option maxRecDepth 100000 in
set_option maxHeartbeats 9000000 in
theorem segment_any (s : ByteArray) (i last fin p : Int) (hp : p = 8 + 8 * i) (hs : s.size ≤ 300) (hi : 0 ≤ i ∧ i ≤ 40) (h8 : p + 7 < (s.size : Int)) (w : World) :
    Calls Tryd.prog 31 #[.string s, .int .i64 i, .int .i64 last, .int .i64 fin] w fun e w' => e = .returned (.tuple #[.agg #[.int .i64 (bt s p), .int .i64 (bt s (p + 1)), .int .i64 (bt s (p + 2)), .int .i64 (two s (p + 4)), .int .i64 (two s (p + 6))], .int .i64 (segAns (segBad s p last fin))]) ∧ Below w.heap.size w w' := by
  have h0 : 0 ≤ p := by omega
  have h1 : p < (s.size : Int) := by omega
  have i1 : 0 ≤ p + 1 := by omega
  have i2 : 0 ≤ p + 2 := by omega
  have i3 : 0 ≤ p + 3 := by omega
  have j1 : p + 1 < (s.size : Int) := by omega
  have j2 : p + 2 < (s.size : Int) := by omega
  have j3 : p + 3 < (s.size : Int) := by omega
  have e1 : IntKind.i64.wrap (p + 1) = p + 1 := wrapI (by omega) (by omega)
  have e2 : IntKind.i64.wrap (p + 2) = p + 2 := wrapI (by omega) (by omega)
  have e4 : IntKind.i64.wrap (p + 4) = p + 4 := wrapI (by omega) (by omega)
  have e6 : IntKind.i64.wrap (p + 6) = p + 6 := wrapI (by omega) (by omega)
  have eb : ∀ j : Int, IntKind.i64.wrap (bt s j) = bt s j := fun j => wrapI (by have := bt_bd s j; omega) (by have := bt_bd s j; omega)
  have hbt := bt_of s
  have HPI : 8 + 8 * i = p := hp.symm
  clear hp
  go_enter Tryd.func31, Tryd.ntmps31
  go_upto_region 2 with fail
  clear HPI
  go_cut [11] (fun v wc => v = .pointer (some ⟨w.heap.size + 1, 0, none⟩) ∧ ∃ n, wc = ((w.alloc (.cells #[.int .i64 0, .int .i64 0, .int .i64 0, .int .i64 0, .int .i64 0] 62)).alloc (.cells (segVal s p).toArray 62)).drewN n)
  case first =>
    refine wp_region_any (by kernel_rfl) ?_
    (try (change wpAny _ _ _ _ _ _ _ (World.drew _)))
    refine wpAny_take (i := 0) (v := .string s) rfl (by kernel_rfl) (by kernel_rfl) (by kernel_rfl) (fun _ _ _ h => h) (Or.inl ⟨by rfl, ?_⟩) ?_
    · intro w; go_simp
    simp only [Act.put, List.setIfInBounds_toArray]
    refine wpAny_take (i := 1) (v := .int .i64 p) rfl (by kernel_rfl) (by kernel_rfl) (by kernel_rfl) (fun _ _ _ h => h) (Or.inl ⟨by rfl, ?_⟩) ?_
    · intro w; go_simp
    simp only [Act.put]
    refine wpAny_take (i := 2) (v := .int .u8 (bt s p)) rfl (by kernel_rfl) (by kernel_rfl) (by kernel_rfl) (fun _ _ _ h => h) (Or.inl ⟨by rfl, ?_⟩) ?_
    · intro w; go_simp
    simp only [Act.put]
    refine wpAny_take (i := 3) (v := .int .i64 (bt s p)) rfl (by kernel_rfl) (by kernel_rfl) (by kernel_rfl) (fun _ _ _ h => h) (Or.inl ⟨by rfl, ?_⟩) ?_
    · intro w; go_simp
    simp only [Act.put]
    refine wpAny_take (i := 4) (v := .string s) rfl (by kernel_rfl) (by kernel_rfl) (by kernel_rfl) (fun _ _ _ h => h) (Or.inl ⟨by rfl, ?_⟩) ?_
    · intro w; go_simp
    simp only [Act.put]
    refine wpAny_take (i := 5) (v := .int .i64 p) rfl (by kernel_rfl) (by kernel_rfl) (by kernel_rfl) (fun _ _ _ h => h) (Or.inl ⟨by rfl, ?_⟩) ?_
    · intro w; go_simp
    simp only [Act.put]
    refine wpAny_take (i := 6) (v := .int .i64 (p + 1)) rfl (by kernel_rfl) (by kernel_rfl) (by kernel_rfl) (fun _ _ _ h => h) (Or.inl ⟨by rfl, ?_⟩) ?_
    · intro w; go_simp
    simp only [Act.put]
    refine wpAny_take (i := 7) (v := .int .u8 (bt s (p + 1))) rfl (by kernel_rfl) (by kernel_rfl) (by kernel_rfl) (fun _ _ _ h => h) (Or.inl ⟨by rfl, ?_⟩) ?_
    · intro w; go_simp
    simp only [Act.put]
    refine wpAny_take (i := 8) (v := .int .i64 (bt s (p + 1))) rfl (by kernel_rfl) (by kernel_rfl) (by kernel_rfl) (fun _ _ _ h => h) (Or.inl ⟨by rfl, ?_⟩) ?_
    · intro w; go_simp
    simp only [Act.put]
    refine wpAny_take (i := 9) (v := .string s) rfl (by kernel_rfl) (by kernel_rfl) (by kernel_rfl) (fun _ _ _ h => h) (Or.inl ⟨by rfl, ?_⟩) ?_
    · intro w; go_simp
    simp only [Act.put]
    refine wpAny_take (i := 10) (v := .int .i64 p) rfl (by kernel_rfl) (by kernel_rfl) (by kernel_rfl) (fun _ _ _ h => h) (Or.inl ⟨by rfl, ?_⟩) ?_
    · intro w; go_simp
    simp only [Act.put]
    refine wpAny_take (i := 11) (v := .int .i64 (p + 2)) rfl (by kernel_rfl) (by kernel_rfl) (by kernel_rfl) (fun _ _ _ h => h) (Or.inl ⟨by rfl, ?_⟩) ?_
    · intro w; go_simp
    simp only [Act.put]
    refine wpAny_take (i := 12) (v := .int .u8 (bt s (p + 2))) rfl (by kernel_rfl) (by kernel_rfl) (by kernel_rfl) (fun _ _ _ h => h) (Or.inl ⟨by rfl, ?_⟩) ?_
    · intro w; go_simp
    simp only [Act.put]
    refine wpAny_take (i := 13) (v := .int .i64 (bt s (p + 2))) rfl (by kernel_rfl) (by kernel_rfl) (by kernel_rfl) (fun _ _ _ h => h) (Or.inl ⟨by rfl, ?_⟩) ?_
    · intro w; go_simp
    simp only [Act.put]
    refine wpAny_take (i := 14) (v := .string s) rfl (by kernel_rfl) (by kernel_rfl) (by kernel_rfl) (fun _ _ _ h => h) (Or.inl ⟨by rfl, ?_⟩) ?_
    · intro w; go_simp
    simp only [Act.put]
    refine wpAny_take (i := 15) (v := .int .i64 p) rfl (by kernel_rfl) (by kernel_rfl) (by kernel_rfl) (fun _ _ _ h => h) (Or.inl ⟨by rfl, ?_⟩) ?_
    · intro w; go_simp
    simp only [Act.put]
    refine wpAny_take (i := 16) (v := .int .i64 (p + 4)) rfl (by kernel_rfl) (by kernel_rfl) (by kernel_rfl) (fun _ _ _ h => h) (Or.inl ⟨by rfl, ?_⟩) ?_
    · intro w; go_simp
    simp only [Act.put]
    refine wpAny_take (i := 18) (v := .string s) rfl (by kernel_rfl) (by kernel_rfl) (by kernel_rfl) (fun _ _ _ h => h) (Or.inl ⟨by rfl, ?_⟩) ?_
    · intro w; go_simp
    simp only [Act.put]
    refine wpAny_take (i := 19) (v := .int .i64 p) rfl (by kernel_rfl) (by kernel_rfl) (by kernel_rfl) (fun _ _ _ h => h) (Or.inl ⟨by rfl, ?_⟩) ?_
    · intro w; go_simp
    simp only [Act.put]
    refine wpAny_take (i := 20) (v := .int .i64 (p + 6)) rfl (by kernel_rfl) (by kernel_rfl) (by kernel_rfl) (fun _ _ _ h => h) (Or.inl ⟨by rfl, ?_⟩) ?_
    · intro w; go_simp
    simp only [Act.put]
    refine wpAny_ready (rs := [17, 23]) (by kernel_rfl) (by simp) ?_
    refine AllReady.cons rfl (fun K hK => ?_) (AllReady.cons rfl (fun K hK => ?_) AllReady.nil)
    ·
      go_simp
      go_wp2_with (go_at_call 30; refine (two_any s _ hs (by omega) (by omega) _).mono ?_; rintro e w' ⟨rfl, nq, rfl⟩)
      refine wpAny_ready (rs := [21, 23]) (by kernel_rfl) (by simp) ?_
      refine AllReady.cons rfl (fun K hK => ?_) (AllReady.cons rfl (fun K hK => ?_) AllReady.nil)
      ·
        go_simp
        go_wp2_with (go_at_call 30; refine (two_any s _ hs (by omega) (by omega) _).mono ?_; rintro e w' ⟨rfl, nq, rfl⟩)
        refine wpAny_take (i := 22) (v := .agg #[.int .i64 (bt s p), .int .i64 (bt s (p + 1)), .int .i64 (bt s (p + 2)), .int .i64 (two s (p + 4)), .int .i64 (two s (p + 6))]) rfl (by kernel_rfl) (by kernel_rfl) (by kernel_rfl) (fun _ _ _ h => h) (Or.inl ⟨by rfl, ?_⟩) ?_
        · intro w; go_simp
        simp only [Act.put]
        refine wpAny_ready (rs := [23]) (by kernel_rfl) (by simp) ?_
        refine AllReady.cons rfl (fun K hK => ?_) AllReady.nil
        ·
          go_simp
          refine hK _ _ ?_; clear hK K
          refine wpAny_ready (rs := [24]) (by kernel_rfl) (by simp) ?_
          refine AllReady.cons rfl (fun K hK => ?_) AllReady.nil
          ·
            go_simp
            refine hK _ _ ?_; clear hK K
            refine wpAny_done (by kernel_rfl) ?_ _
            go_wp2_with fail; go_meet; exact ⟨rfl, _, rfl⟩
      ·
        go_simp
        refine hK _ _ ?_; clear hK K
        refine wpAny_ready (rs := [21]) (by kernel_rfl) (by simp) ?_
        refine AllReady.cons rfl (fun K hK => ?_) AllReady.nil
        ·
          go_simp
          go_wp2_with (go_at_call 30; refine (two_any s _ hs (by omega) (by omega) _).mono ?_; rintro e w' ⟨rfl, nq, rfl⟩)
          refine wpAny_take (i := 22) (v := .agg #[.int .i64 (bt s p), .int .i64 (bt s (p + 1)), .int .i64 (bt s (p + 2)), .int .i64 (two s (p + 4)), .int .i64 (two s (p + 6))]) rfl (by kernel_rfl) (by kernel_rfl) (by kernel_rfl) (fun _ _ _ h => h) (Or.inl ⟨by rfl, ?_⟩) ?_
          · intro w; go_simp
          simp only [Act.put]
          refine wpAny_ready (rs := [24]) (by kernel_rfl) (by simp) ?_
          refine AllReady.cons rfl (fun K hK => ?_) AllReady.nil
          ·
            go_simp
            refine hK _ _ ?_; clear hK K
            refine wpAny_done (by kernel_rfl) ?_ _
            go_wp2_with fail; go_meet; exact ⟨rfl, _, fill5 (w.alloc _) 62 _ (by simp) (1 + _) _ _ _ _ _ _⟩
    ·
      go_simp
      refine hK _ _ ?_; clear hK K
      refine wpAny_ready (rs := [17]) (by kernel_rfl) (by simp) ?_
      refine AllReady.cons rfl (fun K hK => ?_) AllReady.nil
      ·
        go_simp
        go_wp2_with (go_at_call 30; refine (two_any s _ hs (by omega) (by omega) _).mono ?_; rintro e w' ⟨rfl, nq, rfl⟩)
        refine wpAny_ready (rs := [21]) (by kernel_rfl) (by simp) ?_
        refine AllReady.cons rfl (fun K hK => ?_) AllReady.nil
        ·
          go_simp
          go_wp2_with (go_at_call 30; refine (two_any s _ hs (by omega) (by omega) _).mono ?_; rintro e w' ⟨rfl, nq, rfl⟩)
          refine wpAny_take (i := 22) (v := .agg #[.int .i64 (bt s p), .int .i64 (bt s (p + 1)), .int .i64 (bt s (p + 2)), .int .i64 (two s (p + 4)), .int .i64 (two s (p + 6))]) rfl (by kernel_rfl) (by kernel_rfl) (by kernel_rfl) (fun _ _ _ h => h) (Or.inl ⟨by rfl, ?_⟩) ?_
          · intro w; go_simp
          simp only [Act.put]
          refine wpAny_ready (rs := [24]) (by kernel_rfl) (by simp) ?_
          refine AllReady.cons rfl (fun K hK => ?_) AllReady.nil
          ·
            go_simp
            refine hK _ _ ?_; clear hK K
            refine wpAny_done (by kernel_rfl) ?_ _
            go_wp2_with fail; go_meet; exact ⟨rfl, _, fill5b (w.alloc _) 62 _ (by simp) _ _ _ _ _ _⟩
  case rest =>
    obtain ⟨rfl, n, rfl⟩ := hcut
    have b0 := bt_bd s p
    have b1 := bt_bd s (p + 1)
    have b2 := bt_bd s (p + 2)
    have b4 := two_bd s (p + 4)
    have b6 := two_bd s (p + 6)
    clear e1 e2 e4 e6 eb
    simp only [segVal]
    have v0 : (((w.alloc (.cells #[.int .i64 0, .int .i64 0, .int .i64 0, .int .i64 0, .int .i64 0] 62)).alloc (.cells #[.int .i64 (bt s p), .int .i64 (bt s (p + 1)), .int .i64 (bt s (p + 2)), .int .i64 (two s (p + 4)), .int .i64 (two s (p + 6))] 62)).drewN n).cell? ⟨w.heap.size + 1, 0, none⟩ = some (.int .i64 (bt s p)) := by simp [go_sem]
    have v1 : (((w.alloc (.cells #[.int .i64 0, .int .i64 0, .int .i64 0, .int .i64 0, .int .i64 0] 62)).alloc (.cells #[.int .i64 (bt s p), .int .i64 (bt s (p + 1)), .int .i64 (bt s (p + 2)), .int .i64 (two s (p + 4)), .int .i64 (two s (p + 6))] 62)).drewN n).cell? ⟨w.heap.size + 1, 1, none⟩ = some (.int .i64 (bt s (p + 1))) := by simp [go_sem]
    have v2 : (((w.alloc (.cells #[.int .i64 0, .int .i64 0, .int .i64 0, .int .i64 0, .int .i64 0] 62)).alloc (.cells #[.int .i64 (bt s p), .int .i64 (bt s (p + 1)), .int .i64 (bt s (p + 2)), .int .i64 (two s (p + 4)), .int .i64 (two s (p + 6))] 62)).drewN n).cell? ⟨w.heap.size + 1, 2, none⟩ = some (.int .i64 (bt s (p + 2))) := by simp [go_sem]
    have v3 : (((w.alloc (.cells #[.int .i64 0, .int .i64 0, .int .i64 0, .int .i64 0, .int .i64 0] 62)).alloc (.cells #[.int .i64 (bt s p), .int .i64 (bt s (p + 1)), .int .i64 (bt s (p + 2)), .int .i64 (two s (p + 4)), .int .i64 (two s (p + 6))] 62)).drewN n).cell? ⟨w.heap.size + 1, 3, none⟩ = some (.int .i64 (two s (p + 4))) := by simp [go_sem]
    have v4 : (((w.alloc (.cells #[.int .i64 0, .int .i64 0, .int .i64 0, .int .i64 0, .int .i64 0] 62)).alloc (.cells #[.int .i64 (bt s p), .int .i64 (bt s (p + 1)), .int .i64 (bt s (p + 2)), .int .i64 (two s (p + 4)), .int .i64 (two s (p + 6))] 62)).drewN n).cell? ⟨w.heap.size + 1, 4, none⟩ = some (.int .i64 (two s (p + 6))) := by simp [go_sem]
    have z0 : (((w.alloc (.cells #[.int .i64 0, .int .i64 0, .int .i64 0, .int .i64 0, .int .i64 0] 62)).alloc (.cells #[.int .i64 (bt s p), .int .i64 (bt s (p + 1)), .int .i64 (bt s (p + 2)), .int .i64 (two s (p + 4)), .int .i64 (two s (p + 6))] 62)).drewN n).cell? ⟨w.heap.size, 0, none⟩ = some (.int .i64 0) := by simp [go_sem]
    have f0 : (((w.alloc (.cells #[.int .i64 0, .int .i64 0, .int .i64 0, .int .i64 0, .int .i64 0] 62)).alloc (.cells #[.int .i64 (bt s p), .int .i64 (bt s (p + 1)), .int .i64 (bt s (p + 2)), .int .i64 (two s (p + 4)), .int .i64 (two s (p + 6))] 62)).drewN n).frozen? ⟨w.heap.size, 0, none⟩ = false := by simp [go_sem]
    have z1 : (((w.alloc (.cells #[.int .i64 0, .int .i64 0, .int .i64 0, .int .i64 0, .int .i64 0] 62)).alloc (.cells #[.int .i64 (bt s p), .int .i64 (bt s (p + 1)), .int .i64 (bt s (p + 2)), .int .i64 (two s (p + 4)), .int .i64 (two s (p + 6))] 62)).drewN n).cell? ⟨w.heap.size, 1, none⟩ = some (.int .i64 0) := by simp [go_sem]
    have f1 : (((w.alloc (.cells #[.int .i64 0, .int .i64 0, .int .i64 0, .int .i64 0, .int .i64 0] 62)).alloc (.cells #[.int .i64 (bt s p), .int .i64 (bt s (p + 1)), .int .i64 (bt s (p + 2)), .int .i64 (two s (p + 4)), .int .i64 (two s (p + 6))] 62)).drewN n).frozen? ⟨w.heap.size, 1, none⟩ = false := by simp [go_sem]
    have z2 : (((w.alloc (.cells #[.int .i64 0, .int .i64 0, .int .i64 0, .int .i64 0, .int .i64 0] 62)).alloc (.cells #[.int .i64 (bt s p), .int .i64 (bt s (p + 1)), .int .i64 (bt s (p + 2)), .int .i64 (two s (p + 4)), .int .i64 (two s (p + 6))] 62)).drewN n).cell? ⟨w.heap.size, 2, none⟩ = some (.int .i64 0) := by simp [go_sem]
    have f2 : (((w.alloc (.cells #[.int .i64 0, .int .i64 0, .int .i64 0, .int .i64 0, .int .i64 0] 62)).alloc (.cells #[.int .i64 (bt s p), .int .i64 (bt s (p + 1)), .int .i64 (bt s (p + 2)), .int .i64 (two s (p + 4)), .int .i64 (two s (p + 6))] 62)).drewN n).frozen? ⟨w.heap.size, 2, none⟩ = false := by simp [go_sem]
    have z3 : (((w.alloc (.cells #[.int .i64 0, .int .i64 0, .int .i64 0, .int .i64 0, .int .i64 0] 62)).alloc (.cells #[.int .i64 (bt s p), .int .i64 (bt s (p + 1)), .int .i64 (bt s (p + 2)), .int .i64 (two s (p + 4)), .int .i64 (two s (p + 6))] 62)).drewN n).cell? ⟨w.heap.size, 3, none⟩ = some (.int .i64 0) := by simp [go_sem]
    have f3 : (((w.alloc (.cells #[.int .i64 0, .int .i64 0, .int .i64 0, .int .i64 0, .int .i64 0] 62)).alloc (.cells #[.int .i64 (bt s p), .int .i64 (bt s (p + 1)), .int .i64 (bt s (p + 2)), .int .i64 (two s (p + 4)), .int .i64 (two s (p + 6))] 62)).drewN n).frozen? ⟨w.heap.size, 3, none⟩ = false := by simp [go_sem]
    have z4 : (((w.alloc (.cells #[.int .i64 0, .int .i64 0, .int .i64 0, .int .i64 0, .int .i64 0] 62)).alloc (.cells #[.int .i64 (bt s p), .int .i64 (bt s (p + 1)), .int .i64 (bt s (p + 2)), .int .i64 (two s (p + 4)), .int .i64 (two s (p + 6))] 62)).drewN n).cell? ⟨w.heap.size, 4, none⟩ = some (.int .i64 0) := by simp [go_sem]
    have f4 : (((w.alloc (.cells #[.int .i64 0, .int .i64 0, .int .i64 0, .int .i64 0, .int .i64 0] 62)).alloc (.cells #[.int .i64 (bt s p), .int .i64 (bt s (p + 1)), .int .i64 (bt s (p + 2)), .int .i64 (two s (p + 4)), .int .i64 (two s (p + 6))] 62)).drewN n).frozen? ⟨w.heap.size, 4, none⟩ = false := by simp [go_sem]
    have hBW : Below w.heap.size w (((w.alloc (.cells #[.int .i64 0, .int .i64 0, .int .i64 0, .int .i64 0, .int .i64 0] 62)).alloc (.cells #[.int .i64 (bt s p), .int .i64 (bt s (p + 1)), .int .i64 (bt s (p + 2)), .int .i64 (two s (p + 4)), .int .i64 (two s (p + 6))] 62)).drewN n) := below_drewN (((Below.refl _ _).alloc (Nat.le_refl _) _).alloc (by simp) _) n
    have HBW : Hid (Below w.heap.size w (((w.alloc (.cells #[.int .i64 0, .int .i64 0, .int .i64 0, .int .i64 0, .int .i64 0] 62)).alloc (.cells #[.int .i64 (bt s p), .int .i64 (bt s (p + 1)), .int .i64 (bt s (p + 2)), .int .i64 (two s (p + 4)), .int .i64 (two s (p + 6))] 62)).drewN n)) := hBW
    clear hBW
    generalize ((w.alloc (.cells #[.int .i64 0, .int .i64 0, .int .i64 0, .int .i64 0, .int .i64 0] 62)).alloc (.cells #[.int .i64 (bt s p), .int .i64 (bt s (p + 1)), .int .i64 (bt s (p + 2)), .int .i64 (two s (p + 4)), .int .i64 (two s (p + 6))] 62)).drewN n = W0 at *
    rcases seg_cases s p last fin with ⟨c1, hB⟩ | ⟨c1, c2, hB⟩ | ⟨c1, c2, ⟨c3, hB⟩ | ⟨c3, c4, hB⟩ | ⟨c3, c4, c5, hB⟩ | ⟨c3, c4, c5, ⟨c6, hB⟩ | ⟨c6, c7, hB⟩ | ⟨c6, c7, ⟨c8, hB⟩ | ⟨c8, ⟨c9, hB⟩ | ⟨c9, c10, hB⟩ | ⟨c9, c10, ⟨c11, hB⟩ | ⟨c11, c12, hB⟩ | ⟨c11, c12, hB⟩⟩⟩⟩⟩⟩
    · have HB : Hid (segBad s p last fin = some p) := hB
      clear hB
      go_wp2_with fail
      refine bodyPost_ret (v := .tuple #[.agg #[.int .i64 (bt s p), .int .i64 (bt s (p + 1)), .int .i64 (bt s (p + 2)), .int .i64 (two s (p + 4)), .int .i64 (two s (p + 6))], .int .i64 p]) (by simp [results, Tryd.results31, go_sem, z0, z1, z2, z3, z4]) rfl ⟨by rw [HB.out]; rfl, ?_⟩
      exact ((((HBW.out.setCell (Nat.le_refl _) _).setCell (Nat.le_refl _) _).setCell (Nat.le_refl _) _).setCell (Nat.le_refl _) _).setCell (Nat.le_refl _) _
    · have HB : Hid (segBad s p last fin = some p) := hB
      clear hB
      go_wp2_with fail
      refine bodyPost_ret (v := .tuple #[.agg #[.int .i64 (bt s p), .int .i64 (bt s (p + 1)), .int .i64 (bt s (p + 2)), .int .i64 (two s (p + 4)), .int .i64 (two s (p + 6))], .int .i64 p]) (by simp [results, Tryd.results31, go_sem, z0, z1, z2, z3, z4]) rfl ⟨by rw [HB.out]; rfl, ?_⟩
      exact ((((HBW.out.setCell (Nat.le_refl _) _).setCell (Nat.le_refl _) _).setCell (Nat.le_refl _) _).setCell (Nat.le_refl _) _).setCell (Nat.le_refl _) _
    · have HB : Hid (segBad s p last fin = some (p + 1)) := hB
      clear hB
      go_wp2_with fail
      refine bodyPost_ret (v := .tuple #[.agg #[.int .i64 (bt s p), .int .i64 (bt s (p + 1)), .int .i64 (bt s (p + 2)), .int .i64 (two s (p + 4)), .int .i64 (two s (p + 6))], .int .i64 (p + 1)]) (by simp [results, Tryd.results31, go_sem, z0, z1, z2, z3, z4]) rfl ⟨by rw [HB.out]; rfl, ?_⟩
      exact ((((HBW.out.setCell (Nat.le_refl _) _).setCell (Nat.le_refl _) _).setCell (Nat.le_refl _) _).setCell (Nat.le_refl _) _).setCell (Nat.le_refl _) _
    · have HB : Hid (segBad s p last fin = some (p + 1)) := hB
      clear hB
      go_wp2_with fail
      refine bodyPost_ret (v := .tuple #[.agg #[.int .i64 (bt s p), .int .i64 (bt s (p + 1)), .int .i64 (bt s (p + 2)), .int .i64 (two s (p + 4)), .int .i64 (two s (p + 6))], .int .i64 (p + 1)]) (by simp [results, Tryd.results31, go_sem, z0, z1, z2, z3, z4]) rfl ⟨by rw [HB.out]; rfl, ?_⟩
      exact ((((HBW.out.setCell (Nat.le_refl _) _).setCell (Nat.le_refl _) _).setCell (Nat.le_refl _) _).setCell (Nat.le_refl _) _).setCell (Nat.le_refl _) _
    · have HB : Hid (segBad s p last fin = some (p + 1)) := hB
      clear hB
      go_wp2_with fail
      refine bodyPost_ret (v := .tuple #[.agg #[.int .i64 (bt s p), .int .i64 (bt s (p + 1)), .int .i64 (bt s (p + 2)), .int .i64 (two s (p + 4)), .int .i64 (two s (p + 6))], .int .i64 (p + 1)]) (by simp [results, Tryd.results31, go_sem, z0, z1, z2, z3, z4]) rfl ⟨by rw [HB.out]; rfl, ?_⟩
      exact ((((HBW.out.setCell (Nat.le_refl _) _).setCell (Nat.le_refl _) _).setCell (Nat.le_refl _) _).setCell (Nat.le_refl _) _).setCell (Nat.le_refl _) _
    · have HB : Hid (segBad s p last fin = some (p + 2)) := hB
      clear hB
      go_wp2_with fail
      refine bodyPost_ret (v := .tuple #[.agg #[.int .i64 (bt s p), .int .i64 (bt s (p + 1)), .int .i64 (bt s (p + 2)), .int .i64 (two s (p + 4)), .int .i64 (two s (p + 6))], .int .i64 (p + 2)]) (by simp [results, Tryd.results31, go_sem, z0, z1, z2, z3, z4]) rfl ⟨by rw [HB.out]; rfl, ?_⟩
      exact ((((HBW.out.setCell (Nat.le_refl _) _).setCell (Nat.le_refl _) _).setCell (Nat.le_refl _) _).setCell (Nat.le_refl _) _).setCell (Nat.le_refl _) _
    · have HB : Hid (segBad s p last fin = some (p + 2)) := hB
      clear hB
      go_wp2_with fail
      refine bodyPost_ret (v := .tuple #[.agg #[.int .i64 (bt s p), .int .i64 (bt s (p + 1)), .int .i64 (bt s (p + 2)), .int .i64 (two s (p + 4)), .int .i64 (two s (p + 6))], .int .i64 (p + 2)]) (by simp [results, Tryd.results31, go_sem, z0, z1, z2, z3, z4]) rfl ⟨by rw [HB.out]; rfl, ?_⟩
      exact ((((HBW.out.setCell (Nat.le_refl _) _).setCell (Nat.le_refl _) _).setCell (Nat.le_refl _) _).setCell (Nat.le_refl _) _).setCell (Nat.le_refl _) _
    · have HB : Hid (segBad s p last fin = some (p + 3)) := hB
      clear hB
      have d8 : (bt s (p + 3) != 0) = true := by simpa using c8
      go_wp2_with fail
      refine bodyPost_ret (v := .tuple #[.agg #[.int .i64 (bt s p), .int .i64 (bt s (p + 1)), .int .i64 (bt s (p + 2)), .int .i64 (two s (p + 4)), .int .i64 (two s (p + 6))], .int .i64 (p + 3)]) (by simp [results, Tryd.results31, go_sem, z0, z1, z2, z3, z4]) rfl ⟨by rw [HB.out]; rfl, ?_⟩
      exact ((((HBW.out.setCell (Nat.le_refl _) _).setCell (Nat.le_refl _) _).setCell (Nat.le_refl _) _).setCell (Nat.le_refl _) _).setCell (Nat.le_refl _) _
    · have HB : Hid (segBad s p last fin = some (p + 4)) := hB
      clear hB
      have d8 : (bt s (p + 3) != 0) = false := by simpa using c8
      clear c8
      go_wp2_with fail
      refine bodyPost_ret (v := .tuple #[.agg #[.int .i64 (bt s p), .int .i64 (bt s (p + 1)), .int .i64 (bt s (p + 2)), .int .i64 (two s (p + 4)), .int .i64 (two s (p + 6))], .int .i64 (p + 4)]) (by simp [results, Tryd.results31, go_sem, z0, z1, z2, z3, z4]) rfl ⟨by rw [HB.out]; rfl, ?_⟩
      exact ((((HBW.out.setCell (Nat.le_refl _) _).setCell (Nat.le_refl _) _).setCell (Nat.le_refl _) _).setCell (Nat.le_refl _) _).setCell (Nat.le_refl _) _
    · have HB : Hid (segBad s p last fin = some (p + 4)) := hB
      clear hB
      have d8 : (bt s (p + 3) != 0) = false := by simpa using c8
      clear c8
      go_wp2_with fail
      refine bodyPost_ret (v := .tuple #[.agg #[.int .i64 (bt s p), .int .i64 (bt s (p + 1)), .int .i64 (bt s (p + 2)), .int .i64 (two s (p + 4)), .int .i64 (two s (p + 6))], .int .i64 (p + 4)]) (by simp [results, Tryd.results31, go_sem, z0, z1, z2, z3, z4]) rfl ⟨by rw [HB.out]; rfl, ?_⟩
      exact ((((HBW.out.setCell (Nat.le_refl _) _).setCell (Nat.le_refl _) _).setCell (Nat.le_refl _) _).setCell (Nat.le_refl _) _).setCell (Nat.le_refl _) _
    · have HB : Hid (segBad s p last fin = some (p + 6)) := hB
      clear hB
      have d8 : (bt s (p + 3) != 0) = false := by simpa using c8
      clear c8
      go_wp2_with fail
      refine bodyPost_ret (v := .tuple #[.agg #[.int .i64 (bt s p), .int .i64 (bt s (p + 1)), .int .i64 (bt s (p + 2)), .int .i64 (two s (p + 4)), .int .i64 (two s (p + 6))], .int .i64 (p + 6)]) (by simp [results, Tryd.results31, go_sem, z0, z1, z2, z3, z4]) rfl ⟨by rw [HB.out]; rfl, ?_⟩
      exact ((((HBW.out.setCell (Nat.le_refl _) _).setCell (Nat.le_refl _) _).setCell (Nat.le_refl _) _).setCell (Nat.le_refl _) _).setCell (Nat.le_refl _) _
    · have HB : Hid (segBad s p last fin = some (p + 6)) := hB
      clear hB
      have d8 : (bt s (p + 3) != 0) = false := by simpa using c8
      clear c8
      go_wp2_with fail
      refine bodyPost_ret (v := .tuple #[.agg #[.int .i64 (bt s p), .int .i64 (bt s (p + 1)), .int .i64 (bt s (p + 2)), .int .i64 (two s (p + 4)), .int .i64 (two s (p + 6))], .int .i64 (p + 6)]) (by simp [results, Tryd.results31, go_sem, z0, z1, z2, z3, z4]) rfl ⟨by rw [HB.out]; rfl, ?_⟩
      exact ((((HBW.out.setCell (Nat.le_refl _) _).setCell (Nat.le_refl _) _).setCell (Nat.le_refl _) _).setCell (Nat.le_refl _) _).setCell (Nat.le_refl _) _
    · have HB : Hid (segBad s p last fin = .none) := hB
      clear hB
      have d8 : (bt s (p + 3) != 0) = false := by simpa using c8
      clear c8
      go_wp2_with fail
      refine bodyPost_ret (v := .tuple #[.agg #[.int .i64 (bt s p), .int .i64 (bt s (p + 1)), .int .i64 (bt s (p + 2)), .int .i64 (two s (p + 4)), .int .i64 (two s (p + 6))], .int .i64 (-1)]) (by simp [results, Tryd.results31, go_sem, z0, z1, z2, z3, z4]) rfl ⟨by rw [HB.out]; rfl, ?_⟩
      exact ((((HBW.out.setCell (Nat.le_refl _) _).setCell (Nat.le_refl _) _).setCell (Nat.le_refl _) _).setCell (Nat.le_refl _) _).setCell (Nat.le_refl _) _
end Go.Proofs.YtmendnmmiabolaaDoor
