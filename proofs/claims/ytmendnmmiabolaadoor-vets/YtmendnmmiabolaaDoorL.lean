import Derived.Test.YtmendnmmiabolaaDoorK
import Derived.Test.YtmendnmmiabolaaDoorP
namespace Go.Proofs.YtmendnmmiabolaaDoor
open Go.RowKit

set_option maxRecDepth 100000 in
set_option maxHeartbeats 4000000 in
theorem layout_any (s : ByteArray) (n m : Nat) (hs : s.size ≤ 300) (hn : (n : Int) = bt s 6) (hm : (m : Int) = bt s 7) (hn1 : 1 ≤ n) (hn4 : n ≤ 4) (hm4 : m ≤ 4) (h8 : 8 + 8 * (n : Int) + 4 * (m : Int) ≤ (s.size : Int)) (w : World) :
    Calls Tryd.prog 49 #[.string s] w fun e w' => ∃ (g c : Nat) (ad2 : Option Addr) (c2 : Nat), e = .returned (.agg #[.slice (some ⟨g, 0, none⟩) n c, .slice ad2 m c2, .int .i64 (two s 4)]) ∧ Below w.heap.size w w' ∧ g < w'.heap.size ∧ SgAt w' g s n ∧ MvAt w' ad2 s (8 + 8 * (n : Int)) m := by
  have l6 : (6 : Int) < (s.size : Int) := by omega
  have l7 : (7 : Int) < (s.size : Int) := by omega
  have q6 : 8 + bt s 6 * 8 = 8 + 8 * (n : Int) := by omega
  have q7 : 8 + bt s 6 * 8 + bt s 7 * 4 = 8 + 8 * (n : Int) + 4 * (m : Int) := by omega
  have hmo : Hid (∀ w, Calls Tryd.prog 52 #[.string s] w fun e w' => e = .returned (.int .i64 (8 + 8 * (n : Int))) ∧ w' = w) := fun w => by rw [← q6]; exact movesOf_any s l6 w
  have hbo : Hid (∀ w, Calls Tryd.prog 48 #[.string s] w fun e w' => e = .returned (.int .i64 (8 + 8 * (n : Int) + 4 * (m : Int))) ∧ ∃ n, w' = w.drewN n) := fun w => by rw [← q7]; exact bodyOf_any s l7 w
  clear q6 q7 hn hm
  obtain ⟨i0, hi, hz0, hz1, hz2⟩ := info_parts Tryd.info113
  obtain ⟨i1, hi', hz0', hz1', hz2'⟩ := info_parts Tryd.info116
  go_enter Tryd.func49, Tryd.ntmps49
  go_wp2_with (go_at_call 62; refine (number_any s 4 hs (by omega) (by omega) _).mono ?_; rintro e w1 ⟨rfl, nq, rfl⟩)
  go_loopw [4] (fun a wr => ∃ (k : Nat) (ad : Option Addr) (c : Nat), k ≤ n ∧ a = .int .i64 (8 + 8 * (k : Int)) ∧ wr.ownsRow (w.heap.size + 2) 113 6 (.slice ad k c) k (sgVals s k) ∧ LW w wr (.slice ad k c) (.slice none 0 0) (two s 4)) (fun a _ => 8 + 8 * n - (intOf a).toNat)
  case atStart =>
    refine ⟨0, .none, 0, by omega, rfl, World.ownsRow_nil _ _ _ _, ?_⟩
    refine ⟨by repeat (first | refine below_drewN ?_ _ | refine Below.alloc ?_ (by simp) _ | refine Below.setCell ?_ (by simp) _ | exact Below.refl _ _), by simp, ?_, ?_, ?_, ?_, ?_, ?_, ?_, ?_, ?_, ?_, ?_, ?_⟩ <;> simp [go_sem]
  case round =>
    clear nq
    obtain ⟨k, ad, c, hk, rfl, hown, hx⟩ := hrel
    obtain ⟨xb, xz, r0, r1, r2, f0, f1, f2, x0, x1, x2, g0, g1, g2⟩ := hx
    have HX : Hid (LW w wr (.slice ad k c) (.slice none 0 0) (two s 4)) := ⟨xb, xz, r0, r1, r2, f0, f1, f2, x0, x1, x2, g0, g1, g2⟩
    have HO : Hid (wr.ownsRow (w.heap.size + 2) 113 6 (.slice ad k c) k (sgVals s k)) := hown
    clear hown
    by_cases hlt : k < n
    · have hl : (8 : Int) + 8 * (k : Int) < 8 + 8 * (n : Int) := by omega
      go_wp2_with (go_at_call 52; refine (hmo.out _).mono ?_; rintro e w' ⟨rfl, rfl⟩)
      refine wp_region_any (by kernel_rfl) ?_
      (try (change wpAny _ _ _ _ _ _ _ (World.drew _)))
      refine wpAny_take (i := 0) (v := .pointer (some ⟨w.heap.size + 1, 0, none⟩)) rfl (by kernel_rfl) (by kernel_rfl) (by kernel_rfl) (fun _ _ _ h => h) (Or.inl ⟨by kernel_rfl, ?_⟩) ?_
      · intro w; go_simp
      simp only [Act.put, List.setIfInBounds_toArray]
      refine wpAny_take (i := 2) (v := .string s) rfl (by kernel_rfl) (by kernel_rfl) (by kernel_rfl) (fun _ _ _ h => h) (Or.inl ⟨by kernel_rfl, ?_⟩) ?_
      · intro w; go_simp
      simp only [Act.put]
      refine wpAny_take (i := 3) (v := .int .i64 (8 + 8 * (k : Int))) rfl (by kernel_rfl) (by kernel_rfl) (by kernel_rfl) (fun _ _ _ h => h) (Or.inl ⟨by kernel_rfl, ?_⟩) ?_
      · intro w; go_simp
      simp only [Act.put]
      refine wpAny_ready (rs := [1, 4]) (by kernel_rfl) (by simp) ?_
      refine AllReady.cons rfl (fun K hK => ?_) (AllReady.cons rfl (fun K hK => ?_) AllReady.nil)
      ·
        go_simp
        refine hK _ _ ?_; clear hK K
        refine wpAny_ready (rs := [4]) (by kernel_rfl) (by simp) ?_
        refine AllReady.cons rfl (fun K hK => ?_) AllReady.nil
        go_simp
        go_wp2_with (go_at_call 63; refine (segAt_says s _ hs (by omega) (by omega) _).mono ?_; rintro e w1 ⟨rfl, hb⟩; have HX1 : Hid (LW w w1 (.slice ad k c) (.slice none 0 0) (two s 4)) := (HX.out.drewN 1).below hb; obtain ⟨y1, y2, y3, y4, y5, y6, y7, y8, y9, y10, y11, y12, y13, y14⟩ := HX1.out; have q1 : w.heap.size + 1 < w1.heap.size := (by omega); have ho1 : w1.ownsRow (w.heap.size + 2) 113 6 (.slice ad k c) k (sgVals s k) := ownsRow_below (ownsRow_below HO.out (below_drewN (Below.refl _ _) 1)) hb)
        refine wpAny_ready (rs := [5]) (by kernel_rfl) (by simp) ?_
        refine AllReady.cons rfl (fun K hK => ?_) AllReady.nil
        go_simp
        refine hK _ _ ?_; clear hK K
        refine wpAny_ready (rs := [6]) (by kernel_rfl) (by simp) ?_
        refine AllReady.cons rfl (fun K hK => ?_) AllReady.nil
        refine (iff_of_eq (if_pos (by kernel_rfl))).2 ?_
        refine wp_append_own _ _ _ 95 rfl (w.heap.size + 2) 113 i0 _ 6 48 Tryd.underlying95 hi hz0 hz1 hz2 rfl (by decide) (.slice ad k c) k (sgVals s k) rfl (ho1.alloc _) ⟨w1.heap.size, 0, none⟩ 1 1 (sgVal s (8 + 8 * (k : Int))) rfl rfl (fun j u h => sgVal_cells _ _ rfl s _ 113 j u h) (sgVal_one s _) (by unfold maxLen; omega) (by omega) (by simp; omega) ?_
        intro v' w2 hown' hgrow _
        obtain ⟨ad', c', rfl⟩ := own_form hown'
        have HX2 := (HX1.out.alloc _).grown hgrow (fun k' hk' => (HO.out.lt k' hk').1)
        have HX3 : Hid (LW w w2 (.slice ad k c) (.slice none 0 0) (two s 4)) := HX2
        obtain ⟨z1, z2, z3, z4, z5, z6, z7, z8, z9, z10, z11, z12, z13, z14⟩ := HX2
        have HN2 : Hid (w2.ownsRow (w.heap.size + 2) 113 6 (.slice ad' (k + 1) c') (k + 1) (sgVals s (k + 1))) := hown'
        clear hown' hgrow ho1 HX1 y1 y2 y3 y4 y5 y6 y7 y8 y9 y10 y11 y12 y13 y14
        refine hK _ _ ?_; clear hK K
        simp only [Act.put, List.setIfInBounds_toArray]
        refine wpAny_take (i := 7) (v := .pointer (some ⟨w.heap.size + 1, 0, none⟩)) rfl (by kernel_rfl) (by kernel_rfl) (by kernel_rfl) (fun _ _ _ h => h) (Or.inl ⟨by kernel_rfl, ?_⟩) ?_
        · intro w; go_simp
        simp only [Act.put]
        refine wpAny_ready (rs := [8]) (by kernel_rfl) (by simp) ?_
        refine AllReady.cons rfl (fun K hK => ?_) AllReady.nil
        go_simp
        refine hK _ _ ?_; clear hK K
        refine wpAny_done (by kernel_rfl) ?_ _
        go_wp2_with fail
        go_roundw
        case rel => exact ⟨k + 1, ad', c', by omega, by go_num, ownsRow_setCell HN2.out _ _ (by omega) _, HX3.out.segs _⟩
        case measure => simp [intOf]; omega
      ·
        go_simp
        go_wp2_with (go_at_call 63; refine (segAt_says s _ hs (by omega) (by omega) _).mono ?_; rintro e w1 ⟨rfl, hb⟩; have HX1 : Hid (LW w w1 (.slice ad k c) (.slice none 0 0) (two s 4)) := (HX.out.drewN 1).below hb; obtain ⟨y1, y2, y3, y4, y5, y6, y7, y8, y9, y10, y11, y12, y13, y14⟩ := HX1.out; have q1 : w.heap.size + 1 < w1.heap.size := (by omega); have ho1 : w1.ownsRow (w.heap.size + 2) 113 6 (.slice ad k c) k (sgVals s k) := ownsRow_below (ownsRow_below HO.out (below_drewN (Below.refl _ _) 1)) hb)
        refine wpAny_ready (rs := [1, 5]) (by kernel_rfl) (by simp) ?_
        refine AllReady.cons rfl (fun K hK => ?_) (AllReady.cons rfl (fun K hK => ?_) AllReady.nil)
        ·
          go_simp
          refine hK _ _ ?_; clear hK K
          refine wpAny_ready (rs := [5]) (by kernel_rfl) (by simp) ?_
          refine AllReady.cons rfl (fun K hK => ?_) AllReady.nil
          go_simp
          refine hK _ _ ?_; clear hK K
          refine wpAny_ready (rs := [6]) (by kernel_rfl) (by simp) ?_
          refine AllReady.cons rfl (fun K hK => ?_) AllReady.nil
          refine (iff_of_eq (if_pos (by kernel_rfl))).2 ?_
          refine wp_append_own _ _ _ 95 rfl (w.heap.size + 2) 113 i0 _ 6 48 Tryd.underlying95 hi hz0 hz1 hz2 rfl (by decide) (.slice ad k c) k (sgVals s k) rfl (ho1.alloc _) ⟨w1.heap.size, 0, none⟩ 1 1 (sgVal s (8 + 8 * (k : Int))) rfl rfl (fun j u h => sgVal_cells _ _ rfl s _ 113 j u h) (sgVal_one s _) (by unfold maxLen; omega) (by omega) (by simp; omega) ?_
          intro v' w2 hown' hgrow _
          obtain ⟨ad', c', rfl⟩ := own_form hown'
          have HX2 := (HX1.out.alloc _).grown hgrow (fun k' hk' => (HO.out.lt k' hk').1)
          have HX3 : Hid (LW w w2 (.slice ad k c) (.slice none 0 0) (two s 4)) := HX2
          obtain ⟨z1, z2, z3, z4, z5, z6, z7, z8, z9, z10, z11, z12, z13, z14⟩ := HX2
          have HN2 : Hid (w2.ownsRow (w.heap.size + 2) 113 6 (.slice ad' (k + 1) c') (k + 1) (sgVals s (k + 1))) := hown'
          clear hown' hgrow ho1 HX1 y1 y2 y3 y4 y5 y6 y7 y8 y9 y10 y11 y12 y13 y14
          refine hK _ _ ?_; clear hK K
          simp only [Act.put, List.setIfInBounds_toArray]
          refine wpAny_take (i := 7) (v := .pointer (some ⟨w.heap.size + 1, 0, none⟩)) rfl (by kernel_rfl) (by kernel_rfl) (by kernel_rfl) (fun _ _ _ h => h) (Or.inl ⟨by kernel_rfl, ?_⟩) ?_
          · intro w; go_simp
          simp only [Act.put]
          refine wpAny_ready (rs := [8]) (by kernel_rfl) (by simp) ?_
          refine AllReady.cons rfl (fun K hK => ?_) AllReady.nil
          go_simp
          refine hK _ _ ?_; clear hK K
          refine wpAny_done (by kernel_rfl) ?_ _
          go_wp2_with fail
          go_roundw
          case rel => exact ⟨k + 1, ad', c', by omega, by go_num, ownsRow_setCell HN2.out _ _ (by omega) _, HX3.out.segs _⟩
          case measure => simp [intOf]; omega
        ·
          go_simp
          refine hK _ _ ?_; clear hK K
          refine wpAny_ready (rs := [1]) (by kernel_rfl) (by simp) ?_
          refine AllReady.cons rfl (fun K hK => ?_) AllReady.nil
          go_simp
          refine hK _ _ ?_; clear hK K
          refine wpAny_ready (rs := [6]) (by kernel_rfl) (by simp) ?_
          refine AllReady.cons rfl (fun K hK => ?_) AllReady.nil
          refine (iff_of_eq (if_pos (by kernel_rfl))).2 ?_
          refine wp_append_own _ _ _ 95 rfl (w.heap.size + 2) 113 i0 _ 6 48 Tryd.underlying95 hi hz0 hz1 hz2 rfl (by decide) (.slice ad k c) k (sgVals s k) rfl (ho1.alloc _) ⟨w1.heap.size, 0, none⟩ 1 1 (sgVal s (8 + 8 * (k : Int))) rfl rfl (fun j u h => sgVal_cells _ _ rfl s _ 113 j u h) (sgVal_one s _) (by unfold maxLen; omega) (by omega) (by simp; omega) ?_
          intro v' w2 hown' hgrow _
          obtain ⟨ad', c', rfl⟩ := own_form hown'
          have HX2 := (HX1.out.alloc _).grown hgrow (fun k' hk' => (HO.out.lt k' hk').1)
          have HX3 : Hid (LW w w2 (.slice ad k c) (.slice none 0 0) (two s 4)) := HX2
          obtain ⟨z1, z2, z3, z4, z5, z6, z7, z8, z9, z10, z11, z12, z13, z14⟩ := HX2
          have HN2 : Hid (w2.ownsRow (w.heap.size + 2) 113 6 (.slice ad' (k + 1) c') (k + 1) (sgVals s (k + 1))) := hown'
          clear hown' hgrow ho1 HX1 y1 y2 y3 y4 y5 y6 y7 y8 y9 y10 y11 y12 y13 y14
          refine hK _ _ ?_; clear hK K
          simp only [Act.put, List.setIfInBounds_toArray]
          refine wpAny_take (i := 7) (v := .pointer (some ⟨w.heap.size + 1, 0, none⟩)) rfl (by kernel_rfl) (by kernel_rfl) (by kernel_rfl) (fun _ _ _ h => h) (Or.inl ⟨by kernel_rfl, ?_⟩) ?_
          · intro w; go_simp
          simp only [Act.put]
          refine wpAny_ready (rs := [8]) (by kernel_rfl) (by simp) ?_
          refine AllReady.cons rfl (fun K hK => ?_) AllReady.nil
          go_simp
          refine hK _ _ ?_; clear hK K
          refine wpAny_done (by kernel_rfl) ?_ _
          go_wp2_with fail
          go_roundw
          case rel => exact ⟨k + 1, ad', c', by omega, by go_num, ownsRow_setCell HN2.out _ _ (by omega) _, HX3.out.segs _⟩
          case measure => simp [intOf]; omega
    · have hkn : k = n := by omega
      subst hkn
      clear hlt hk
      obtain ⟨g, rfl⟩ : ∃ g, ad = some ⟨g, 0, none⟩ := by
        rcases HO.out.2 with ⟨_, h2⟩ | ⟨g, cap, cur, hv, _⟩
        · omega
        · injection hv with h1; exact ⟨g, h1⟩
      have HC0 : Hid (SgAt wr g s k) := sgAt_own HO.out
      have hg1 := (HO.out.lt g rfl).1
      have hg2 := (HO.out.lt g rfl).2
      clear HO
      obtain ⟨B, hB⟩ : ∃ B, B = wr.heap.size := ⟨_, rfl⟩
      rw [← hB] at hg2
      go_wp2_with (go_at_call 52; refine (hmo.out _).mono ?_; rintro e w' ⟨rfl, rfl⟩)
      go_loopw [5] (fun a wv => ∃ (j : Nat) (ad2 : Option Addr) (c2 : Nat), j ≤ m ∧ a = .int .i64 (8 + 8 * (k : Int) + 4 * (j : Int)) ∧ wv.ownsRow B 116 2 (.slice ad2 j c2) j (mvVals s (8 + 8 * (k : Int)) j) ∧ LW w wv (.slice (some ⟨g, 0, none⟩) k c) (.slice ad2 j c2) (two s 4) ∧ B ≤ wv.heap.size ∧ SgAt wv g s k) (fun a _ => 8 + 8 * k + 4 * m - (intOf a).toNat)
      case atStart => exact ⟨0, .none, 0, by omega, by simp, World.ownsRow_nil _ _ _ _, HX.out, by omega, HC0.out⟩
      case round =>
        clear HC0 HX xb xz r0 r1 r2 f0 f1 f2 x0 x1 x2 g0 g1 g2
        obtain ⟨j, ad2, c2, hj, rfl, hown, hx, hBv, hc⟩ := hrel
        obtain ⟨xb, xz, r0, r1, r2, f0, f1, f2, x0, x1, x2, g0, g1, g2⟩ := hx
        have HX : Hid (LW w wr (.slice (some ⟨g, 0, none⟩) k c) (.slice ad2 j c2) (two s 4)) := ⟨xb, xz, r0, r1, r2, f0, f1, f2, x0, x1, x2, g0, g1, g2⟩
        have HO2 : Hid (wr.ownsRow B 116 2 (.slice ad2 j c2) j (mvVals s (8 + 8 * (k : Int)) j)) := hown
        have HC : Hid (SgAt wr g s k) := hc
        clear hown hc
        have hB2 : w.heap.size + 2 ≤ B := by omega
        clear hB
        by_cases hlt : j < m
        · have hl : 8 + 8 * (k : Int) + 4 * (j : Int) < 8 + 8 * (k : Int) + 4 * (m : Int) := by omega
          have e2 : IntKind.i64.wrap (8 + 8 * (k : Int) + 4 * (j : Int) + 2) = 8 + 8 * (k : Int) + 4 * (j : Int) + 2 := wrapI (by omega) (by omega)
          have q1 : w.heap.size + 1 < wr.heap.size := by omega
          have hx1 : ∀ (N : Nat) (o : Obj), ((wr.drewN N).alloc o).cell? ⟨w.heap.size + 1, 1, none⟩ = some (.slice ad2 j c2) := fun N o => ((HX.out.drewN N).alloc o).x1
          go_wp2_with (go_at_call 48; refine (hbo.out _).mono ?_; rintro e w'' ⟨rfl, nz, rfl⟩)
          refine wp_region_any (by kernel_rfl) ?_
          (try (change wpAny _ _ _ _ _ _ _ (World.drew _)))
          refine wpAny_take (i := 0) (v := .pointer (some ⟨w.heap.size + 1, 1, none⟩)) rfl (by kernel_rfl) (by kernel_rfl) (by kernel_rfl) (fun _ _ _ h => h) (Or.inl ⟨by kernel_rfl, ?_⟩) ?_
          · intro w; go_simp
          simp only [Act.put, List.setIfInBounds_toArray]
          refine wpAny_take (i := 2) (v := .string s) rfl (by kernel_rfl) (by kernel_rfl) (by kernel_rfl) (fun _ _ _ h => h) (Or.inl ⟨by kernel_rfl, ?_⟩) ?_
          · intro w; go_simp
          simp only [Act.put]
          refine wpAny_take (i := 3) (v := .int .i64 (8 + 8 * (k : Int) + 4 * (j : Int))) rfl (by kernel_rfl) (by kernel_rfl) (by kernel_rfl) (fun _ _ _ h => h) (Or.inl ⟨by kernel_rfl, ?_⟩) ?_
          · intro w; go_simp
          simp only [Act.put]
          refine wpAny_take (i := 5) (v := .string s) rfl (by kernel_rfl) (by kernel_rfl) (by kernel_rfl) (fun _ _ _ h => h) (Or.inl ⟨by kernel_rfl, ?_⟩) ?_
          · intro w; go_simp
          simp only [Act.put]
          refine wpAny_take (i := 6) (v := .int .i64 (8 + 8 * (k : Int) + 4 * (j : Int))) rfl (by kernel_rfl) (by kernel_rfl) (by kernel_rfl) (fun _ _ _ h => h) (Or.inl ⟨by kernel_rfl, ?_⟩) ?_
          · intro w; go_simp
          simp only [Act.put]
          refine wpAny_take (i := 7) (v := .int .i64 (8 + 8 * (k : Int) + 4 * (j : Int) + 2)) rfl (by kernel_rfl) (by kernel_rfl) (by kernel_rfl) (fun _ _ _ h => h) (Or.inl ⟨by kernel_rfl, ?_⟩) ?_
          · intro w; go_simp
          simp only [Act.put]
          refine wpAny_ready (rs := [1, 4]) (by kernel_rfl) (by simp) ?_
          refine AllReady.cons rfl (fun K hK => ?_) (AllReady.cons rfl (fun K hK => ?_) AllReady.nil)
          ·
            go_simp
            refine hK _ _ ?_; clear hK K
            refine wpAny_ready (rs := [4]) (by kernel_rfl) (by simp) ?_
            refine AllReady.cons rfl (fun K hK => ?_) AllReady.nil
            go_simp
            go_wp2_with (go_at_call 62; refine (number_any s _ hs (by omega) (by omega) _).mono ?_; rintro e w1 ⟨rfl, na, rfl⟩)
            refine wpAny_ready (rs := [8]) (by kernel_rfl) (by simp) ?_
            refine AllReady.cons rfl (fun K hK => ?_) AllReady.nil
            go_simp
            go_wp2_with (go_at_call 62; refine (number_any s _ hs (by omega) (by omega) _).mono ?_; rintro e w1 ⟨rfl, nb, rfl⟩)
            refine wpAny_take (i := 9) (v := .agg #[.int .i64 (two s (8 + 8 * (k : Int) + 4 * (j : Int))), .int .i64 (two s (8 + 8 * (k : Int) + 4 * (j : Int) + 2))]) rfl (by kernel_rfl) (by kernel_rfl) (by kernel_rfl) (fun _ _ _ h => h) (Or.inl ⟨by kernel_rfl, ?_⟩) ?_
            · intro w; go_simp
            simp only [Act.put]
            refine wpAny_ready (rs := [10]) (by kernel_rfl) (by simp) ?_
            refine AllReady.cons rfl (fun K hK => ?_) AllReady.nil
            go_simp
            refine hK _ _ ?_; clear hK K
            refine wpAny_ready (rs := [11]) (by kernel_rfl) (by simp) ?_
            refine AllReady.cons rfl (fun K hK => ?_) AllReady.nil
            refine (iff_of_eq (if_pos (by kernel_rfl))).2 ?_
            refine wp_append_own _ _ _ 96 rfl B 116 i1 _ 2 16 Tryd.underlying96 hi' hz0' hz1' hz2' rfl (by decide) (.slice ad2 j c2) j (mvVals s (8 + 8 * (k : Int)) j) rfl (ownsRow_below HO2.out (by repeat (first | refine below_drewN ?_ _ | refine Below.alloc ?_ (by simp) _ | exact Below.refl _ _))) ⟨wr.heap.size, 0, none⟩ 1 1 (mvVal s (8 + 8 * (k : Int) + 4 * (j : Int))) rfl rfl (fun j' u h => mvVal_cells _ _ rfl s _ 116 j' u h) (mvVal_one s _) (by unfold maxLen; omega) (by omega) (by simp; omega) ?_
            intro v' w2 hown' hgrow _
            obtain ⟨ad', c', rfl⟩ := own_form hown'
            have HX2 : LW w w2 (.slice (some ⟨g, 0, none⟩) k c) (.slice ad2 j c2) (two s 4) := LW.grown (LW.below HX.out (by repeat (first | refine below_drewN ?_ _ | refine Below.alloc ?_ (by simp) _ | exact Below.refl _ _))) hgrow (fun k' hk' => by have := (HO2.out.lt k' hk').1; omega)
            have HX3 : Hid (LW w w2 (.slice (some ⟨g, 0, none⟩) k c) (.slice ad2 j c2) (two s 4)) := HX2
            obtain ⟨z1, z2, z3, z4, z5, z6, z7, z8, z9, z10, z11, z12, z13, z14⟩ := HX2
            have HN2 : Hid (w2.ownsRow B 116 2 (.slice ad' (j + 1) c') (j + 1) (mvVals s (8 + 8 * (k : Int)) (j + 1))) := hown'
            have HC2 : Hid (SgAt w2 g s k) := SgAt.grown (SgAt.below HC.out (by omega) (by repeat (first | refine below_drewN ?_ _ | refine Below.alloc ?_ (by simp) _ | exact Below.refl _ _))) hgrow (fun hh => by have := (HO2.out.lt g hh.symm).1; omega)
            have HZ2 : B ≤ w2.heap.size := by have := hgrow.size; simp at this; omega
            clear hown' hgrow
            refine hK _ _ ?_; clear hK K
            simp only [Act.put, List.setIfInBounds_toArray]
            refine wpAny_take (i := 12) (v := .pointer (some ⟨w.heap.size + 1, 1, none⟩)) rfl (by kernel_rfl) (by kernel_rfl) (by kernel_rfl) (fun _ _ _ h => h) (Or.inl ⟨by kernel_rfl, ?_⟩) ?_
            · intro w; go_simp
            simp only [Act.put]
            refine wpAny_ready (rs := [13]) (by kernel_rfl) (by simp) ?_
            refine AllReady.cons rfl (fun K hK => ?_) AllReady.nil
            go_simp
            refine hK _ _ ?_; clear hK K
            refine wpAny_done (by kernel_rfl) ?_ _
            go_wp2_with fail
            go_roundw
            case rel => exact ⟨j + 1, ad', c', by omega, by go_num, ownsRow_setCell HN2.out _ _ (by omega) _, HX3.out.moves _, by simpa using HZ2, HC2.out.setCell _ _ (by omega) _⟩
            case measure => simp [intOf]; omega
          ·
            go_simp
            go_wp2_with (go_at_call 62; refine (number_any s _ hs (by omega) (by omega) _).mono ?_; rintro e w1 ⟨rfl, na, rfl⟩)
            refine wpAny_ready (rs := [1, 8]) (by kernel_rfl) (by simp) ?_
            refine AllReady.cons rfl (fun K hK => ?_) (AllReady.cons rfl (fun K hK => ?_) AllReady.nil)
            ·
              go_simp
              refine hK _ _ ?_; clear hK K
              refine wpAny_ready (rs := [8]) (by kernel_rfl) (by simp) ?_
              refine AllReady.cons rfl (fun K hK => ?_) AllReady.nil
              go_simp
              go_wp2_with (go_at_call 62; refine (number_any s _ hs (by omega) (by omega) _).mono ?_; rintro e w1 ⟨rfl, nb, rfl⟩)
              refine wpAny_take (i := 9) (v := .agg #[.int .i64 (two s (8 + 8 * (k : Int) + 4 * (j : Int))), .int .i64 (two s (8 + 8 * (k : Int) + 4 * (j : Int) + 2))]) rfl (by kernel_rfl) (by kernel_rfl) (by kernel_rfl) (fun _ _ _ h => h) (Or.inl ⟨by kernel_rfl, ?_⟩) ?_
              · intro w; go_simp
              simp only [Act.put]
              refine wpAny_ready (rs := [10]) (by kernel_rfl) (by simp) ?_
              refine AllReady.cons rfl (fun K hK => ?_) AllReady.nil
              go_simp
              refine hK _ _ ?_; clear hK K
              refine wpAny_ready (rs := [11]) (by kernel_rfl) (by simp) ?_
              refine AllReady.cons rfl (fun K hK => ?_) AllReady.nil
              refine (iff_of_eq (if_pos (by kernel_rfl))).2 ?_
              refine wp_append_own _ _ _ 96 rfl B 116 i1 _ 2 16 Tryd.underlying96 hi' hz0' hz1' hz2' rfl (by decide) (.slice ad2 j c2) j (mvVals s (8 + 8 * (k : Int)) j) rfl (ownsRow_below HO2.out (by repeat (first | refine below_drewN ?_ _ | refine Below.alloc ?_ (by simp) _ | exact Below.refl _ _))) ⟨wr.heap.size, 0, none⟩ 1 1 (mvVal s (8 + 8 * (k : Int) + 4 * (j : Int))) rfl rfl (fun j' u h => mvVal_cells _ _ rfl s _ 116 j' u h) (mvVal_one s _) (by unfold maxLen; omega) (by omega) (by simp; omega) ?_
              intro v' w2 hown' hgrow _
              obtain ⟨ad', c', rfl⟩ := own_form hown'
              have HX2 : LW w w2 (.slice (some ⟨g, 0, none⟩) k c) (.slice ad2 j c2) (two s 4) := LW.grown (LW.below HX.out (by repeat (first | refine below_drewN ?_ _ | refine Below.alloc ?_ (by simp) _ | exact Below.refl _ _))) hgrow (fun k' hk' => by have := (HO2.out.lt k' hk').1; omega)
              have HX3 : Hid (LW w w2 (.slice (some ⟨g, 0, none⟩) k c) (.slice ad2 j c2) (two s 4)) := HX2
              obtain ⟨z1, z2, z3, z4, z5, z6, z7, z8, z9, z10, z11, z12, z13, z14⟩ := HX2
              have HN2 : Hid (w2.ownsRow B 116 2 (.slice ad' (j + 1) c') (j + 1) (mvVals s (8 + 8 * (k : Int)) (j + 1))) := hown'
              have HC2 : Hid (SgAt w2 g s k) := SgAt.grown (SgAt.below HC.out (by omega) (by repeat (first | refine below_drewN ?_ _ | refine Below.alloc ?_ (by simp) _ | exact Below.refl _ _))) hgrow (fun hh => by have := (HO2.out.lt g hh.symm).1; omega)
              have HZ2 : B ≤ w2.heap.size := by have := hgrow.size; simp at this; omega
              clear hown' hgrow
              refine hK _ _ ?_; clear hK K
              simp only [Act.put, List.setIfInBounds_toArray]
              refine wpAny_take (i := 12) (v := .pointer (some ⟨w.heap.size + 1, 1, none⟩)) rfl (by kernel_rfl) (by kernel_rfl) (by kernel_rfl) (fun _ _ _ h => h) (Or.inl ⟨by kernel_rfl, ?_⟩) ?_
              · intro w; go_simp
              simp only [Act.put]
              refine wpAny_ready (rs := [13]) (by kernel_rfl) (by simp) ?_
              refine AllReady.cons rfl (fun K hK => ?_) AllReady.nil
              go_simp
              refine hK _ _ ?_; clear hK K
              refine wpAny_done (by kernel_rfl) ?_ _
              go_wp2_with fail
              go_roundw
              case rel => exact ⟨j + 1, ad', c', by omega, by go_num, ownsRow_setCell HN2.out _ _ (by omega) _, HX3.out.moves _, by simpa using HZ2, HC2.out.setCell _ _ (by omega) _⟩
              case measure => simp [intOf]; omega
            ·
              go_simp
              go_wp2_with (go_at_call 62; refine (number_any s _ hs (by omega) (by omega) _).mono ?_; rintro e w1 ⟨rfl, nb, rfl⟩)
              refine wpAny_take (i := 9) (v := .agg #[.int .i64 (two s (8 + 8 * (k : Int) + 4 * (j : Int))), .int .i64 (two s (8 + 8 * (k : Int) + 4 * (j : Int) + 2))]) rfl (by kernel_rfl) (by kernel_rfl) (by kernel_rfl) (fun _ _ _ h => h) (Or.inl ⟨by kernel_rfl, ?_⟩) ?_
              · intro w; go_simp
              simp only [Act.put]
              refine wpAny_ready (rs := [1, 10]) (by kernel_rfl) (by simp) ?_
              refine AllReady.cons rfl (fun K hK => ?_) (AllReady.cons rfl (fun K hK => ?_) AllReady.nil)
              ·
                go_simp
                refine hK _ _ ?_; clear hK K
                refine wpAny_ready (rs := [10]) (by kernel_rfl) (by simp) ?_
                refine AllReady.cons rfl (fun K hK => ?_) AllReady.nil
                go_simp
                refine hK _ _ ?_; clear hK K
                refine wpAny_ready (rs := [11]) (by kernel_rfl) (by simp) ?_
                refine AllReady.cons rfl (fun K hK => ?_) AllReady.nil
                refine (iff_of_eq (if_pos (by kernel_rfl))).2 ?_
                refine wp_append_own _ _ _ 96 rfl B 116 i1 _ 2 16 Tryd.underlying96 hi' hz0' hz1' hz2' rfl (by decide) (.slice ad2 j c2) j (mvVals s (8 + 8 * (k : Int)) j) rfl (ownsRow_below HO2.out (by repeat (first | refine below_drewN ?_ _ | refine Below.alloc ?_ (by simp) _ | exact Below.refl _ _))) ⟨wr.heap.size, 0, none⟩ 1 1 (mvVal s (8 + 8 * (k : Int) + 4 * (j : Int))) rfl rfl (fun j' u h => mvVal_cells _ _ rfl s _ 116 j' u h) (mvVal_one s _) (by unfold maxLen; omega) (by omega) (by simp; omega) ?_
                intro v' w2 hown' hgrow _
                obtain ⟨ad', c', rfl⟩ := own_form hown'
                have HX2 : LW w w2 (.slice (some ⟨g, 0, none⟩) k c) (.slice ad2 j c2) (two s 4) := LW.grown (LW.below HX.out (by repeat (first | refine below_drewN ?_ _ | refine Below.alloc ?_ (by simp) _ | exact Below.refl _ _))) hgrow (fun k' hk' => by have := (HO2.out.lt k' hk').1; omega)
                have HX3 : Hid (LW w w2 (.slice (some ⟨g, 0, none⟩) k c) (.slice ad2 j c2) (two s 4)) := HX2
                obtain ⟨z1, z2, z3, z4, z5, z6, z7, z8, z9, z10, z11, z12, z13, z14⟩ := HX2
                have HN2 : Hid (w2.ownsRow B 116 2 (.slice ad' (j + 1) c') (j + 1) (mvVals s (8 + 8 * (k : Int)) (j + 1))) := hown'
                have HC2 : Hid (SgAt w2 g s k) := SgAt.grown (SgAt.below HC.out (by omega) (by repeat (first | refine below_drewN ?_ _ | refine Below.alloc ?_ (by simp) _ | exact Below.refl _ _))) hgrow (fun hh => by have := (HO2.out.lt g hh.symm).1; omega)
                have HZ2 : B ≤ w2.heap.size := by have := hgrow.size; simp at this; omega
                clear hown' hgrow
                refine hK _ _ ?_; clear hK K
                simp only [Act.put, List.setIfInBounds_toArray]
                refine wpAny_take (i := 12) (v := .pointer (some ⟨w.heap.size + 1, 1, none⟩)) rfl (by kernel_rfl) (by kernel_rfl) (by kernel_rfl) (fun _ _ _ h => h) (Or.inl ⟨by kernel_rfl, ?_⟩) ?_
                · intro w; go_simp
                simp only [Act.put]
                refine wpAny_ready (rs := [13]) (by kernel_rfl) (by simp) ?_
                refine AllReady.cons rfl (fun K hK => ?_) AllReady.nil
                go_simp
                refine hK _ _ ?_; clear hK K
                refine wpAny_done (by kernel_rfl) ?_ _
                go_wp2_with fail
                go_roundw
                case rel => exact ⟨j + 1, ad', c', by omega, by go_num, ownsRow_setCell HN2.out _ _ (by omega) _, HX3.out.moves _, by simpa using HZ2, HC2.out.setCell _ _ (by omega) _⟩
                case measure => simp [intOf]; omega
              ·
                go_simp
                refine hK _ _ ?_; clear hK K
                refine wpAny_ready (rs := [1]) (by kernel_rfl) (by simp) ?_
                refine AllReady.cons rfl (fun K hK => ?_) AllReady.nil
                go_simp
                refine hK _ _ ?_; clear hK K
                refine wpAny_ready (rs := [11]) (by kernel_rfl) (by simp) ?_
                refine AllReady.cons rfl (fun K hK => ?_) AllReady.nil
                refine (iff_of_eq (if_pos (by kernel_rfl))).2 ?_
                refine wp_append_own _ _ _ 96 rfl B 116 i1 _ 2 16 Tryd.underlying96 hi' hz0' hz1' hz2' rfl (by decide) (.slice ad2 j c2) j (mvVals s (8 + 8 * (k : Int)) j) rfl (ownsRow_below HO2.out (by repeat (first | refine below_drewN ?_ _ | refine Below.alloc ?_ (by simp) _ | exact Below.refl _ _))) ⟨wr.heap.size, 0, none⟩ 1 1 (mvVal s (8 + 8 * (k : Int) + 4 * (j : Int))) rfl rfl (fun j' u h => mvVal_cells _ _ rfl s _ 116 j' u h) (mvVal_one s _) (by unfold maxLen; omega) (by omega) (by simp; omega) ?_
                intro v' w2 hown' hgrow _
                obtain ⟨ad', c', rfl⟩ := own_form hown'
                have HX2 : LW w w2 (.slice (some ⟨g, 0, none⟩) k c) (.slice ad2 j c2) (two s 4) := LW.grown (LW.below HX.out (by repeat (first | refine below_drewN ?_ _ | refine Below.alloc ?_ (by simp) _ | exact Below.refl _ _))) hgrow (fun k' hk' => by have := (HO2.out.lt k' hk').1; omega)
                have HX3 : Hid (LW w w2 (.slice (some ⟨g, 0, none⟩) k c) (.slice ad2 j c2) (two s 4)) := HX2
                obtain ⟨z1, z2, z3, z4, z5, z6, z7, z8, z9, z10, z11, z12, z13, z14⟩ := HX2
                have HN2 : Hid (w2.ownsRow B 116 2 (.slice ad' (j + 1) c') (j + 1) (mvVals s (8 + 8 * (k : Int)) (j + 1))) := hown'
                have HC2 : Hid (SgAt w2 g s k) := SgAt.grown (SgAt.below HC.out (by omega) (by repeat (first | refine below_drewN ?_ _ | refine Below.alloc ?_ (by simp) _ | exact Below.refl _ _))) hgrow (fun hh => by have := (HO2.out.lt g hh.symm).1; omega)
                have HZ2 : B ≤ w2.heap.size := by have := hgrow.size; simp at this; omega
                clear hown' hgrow
                refine hK _ _ ?_; clear hK K
                simp only [Act.put, List.setIfInBounds_toArray]
                refine wpAny_take (i := 12) (v := .pointer (some ⟨w.heap.size + 1, 1, none⟩)) rfl (by kernel_rfl) (by kernel_rfl) (by kernel_rfl) (fun _ _ _ h => h) (Or.inl ⟨by kernel_rfl, ?_⟩) ?_
                · intro w; go_simp
                simp only [Act.put]
                refine wpAny_ready (rs := [13]) (by kernel_rfl) (by simp) ?_
                refine AllReady.cons rfl (fun K hK => ?_) AllReady.nil
                go_simp
                refine hK _ _ ?_; clear hK K
                refine wpAny_done (by kernel_rfl) ?_ _
                go_wp2_with fail
                go_roundw
                case rel => exact ⟨j + 1, ad', c', by omega, by go_num, ownsRow_setCell HN2.out _ _ (by omega) _, HX3.out.moves _, by simpa using HZ2, HC2.out.setCell _ _ (by omega) _⟩
                case measure => simp [intOf]; omega
        · have hjm : j = m := by omega
          subst hjm
          go_wp2_with (go_at_call 48; refine (hbo.out _).mono ?_; rintro e w'' ⟨rfl, nz, rfl⟩)
          refine bodyPost_ret (v := .agg #[.slice (some ⟨g, 0, none⟩) k c, .slice ad2 j c2, .int .i64 (two s 4)]) (by simp [results, Tryd.results49, go_sem, r0, r1, r2]) rfl ⟨g, c, ad2, c2, rfl, ?_, ?_, ?_, ?_⟩
          · exact (((below_drewN xb nz).setCell (Nat.le_refl _) _).setCell (Nat.le_refl _) _).setCell (Nat.le_refl _) _
          · simp; omega
          · exact ((((HC.out.below (by omega) (below_drewN (Below.refl _ _) nz)).setCell _ _ (by omega) _).setCell _ _ (by omega) _).setCell _ _ (by omega) _)
          · have hne : ∀ a, ad2 = some a → a.block ≠ w.heap.size := by
              intro a ha
              rcases HO2.out.2 with ⟨h1, _⟩ | ⟨g', cap, cur, hv, hbg, _⟩
              · injection h1 with h3; rw [ha] at h3; cases h3
              · injection hv with h3; rw [ha] at h3; injection h3 with h4; subst h4; show g' ≠ _; omega
            exact (((mvAt_own (ownsRow_below HO2.out (below_drewN (Below.refl _ _) nz))).setCell _ _ hne _).setCell _ _ hne _).setCell _ _ hne _
end Go.Proofs.YtmendnmmiabolaaDoor
