import Derived.Test.YtmendnmmiabolaaDoorN
import Derived.Test.YtmendnmmiabolaaDoorM
import Derived.Test.YtmendnmmiabolaaDoorL
import Derived.Test.YtmendnmmiabolaaDoorB
namespace Go.Proofs.YtmendnmmiabolaaDoor
open Go.RowKit

theorem head_no (s : ByteArray) (x : Int) (hs : s.size ≤ 300) (h : headBad s = some x) (w : World) :
    Calls Tryd.prog 46 #[.string s] w fun e w' => e = .panicked (noImg x) ∧ ∃ n, w' = w.drewN n :=
  (head_any s hs w).mono fun e w' ⟨he, hb⟩ => ⟨by rw [he, h]; rfl, hb⟩
theorem head_yes (s : ByteArray) (hs : s.size ≤ 300) (h : headBad s = .none) (w : World) :
    Calls Tryd.prog 46 #[.string s] w fun e w' => e = .returned (.tuple #[]) ∧ ∃ n, w' = w.drewN n :=
  (head_any s hs w).mono fun e w' ⟨he, hb⟩ => ⟨by rw [he, h]; rfl, hb⟩
theorem segs_no (s : ByteArray) (g n cap : Nat) (fin x : Int) (hs : s.size ≤ 300) (hn : n ≤ 4) (h : segsBad s fin n 8 0 = some x) (w : World) (hg : g < w.heap.size) (hc : SgAt w g s n) :
    Calls Tryd.prog 50 #[.slice (some ⟨g, 0, none⟩) n cap, .int .i64 fin, .int .i64 (s.size : Int)] w fun e w' => e = .panicked (noImg x) ∧ Below w.heap.size w w' :=
  (segs_any s g n cap fin hs hn w hg hc).mono fun e w' ⟨he, hb⟩ => ⟨by rw [he, h]; rfl, hb⟩
theorem segs_yes (s : ByteArray) (g n cap : Nat) (fin : Int) (hs : s.size ≤ 300) (hn : n ≤ 4) (h : segsBad s fin n 8 0 = .none) (w : World) (hg : g < w.heap.size) (hc : SgAt w g s n) :
    Calls Tryd.prog 50 #[.slice (some ⟨g, 0, none⟩) n cap, .int .i64 fin, .int .i64 (s.size : Int)] w fun e w' => e = .returned (.tuple #[]) ∧ Below w.heap.size w w' :=
  (segs_any s g n cap fin hs hn w hg hc).mono fun e w' ⟨he, hb⟩ => ⟨by rw [he, h]; rfl, hb⟩
theorem moves_no (s : ByteArray) (g n cap : Nat) (ad2 : Option Addr) (m c2 : Nat) (q y x : Int) (hn : n ≤ 4) (hm4 : m ≤ 4) (hq : 0 ≤ q ∧ q ≤ 100) (h4 : ∀ k : Nat, k < n → bt s (8 + 8 * (k : Int) + 2) ≤ 4) (h : movesBad s n m q 0 = some x) (w : World) (hg : g < w.heap.size) (hc : SgAt w g s n) (hv : MvAt w ad2 s q m) :
    Calls Tryd.prog 51 #[.agg #[.slice (some ⟨g, 0, none⟩) n cap, .slice ad2 m c2, .int .i64 y], .int .i64 q] w fun e w' => e = .panicked (noImg x) ∧ Below w.heap.size w w' :=
  (moves_any s g n cap ad2 m c2 q y hn hm4 hq h4 w hg hc hv).mono fun e w' ⟨he, hb⟩ => ⟨by rw [he, h]; rfl, hb⟩
theorem moves_yes (s : ByteArray) (g n cap : Nat) (ad2 : Option Addr) (m c2 : Nat) (q y : Int) (hn : n ≤ 4) (hm4 : m ≤ 4) (hq : 0 ≤ q ∧ q ≤ 100) (h4 : ∀ k : Nat, k < n → bt s (8 + 8 * (k : Int) + 2) ≤ 4) (h : movesBad s n m q 0 = .none) (w : World) (hg : g < w.heap.size) (hc : SgAt w g s n) (hv : MvAt w ad2 s q m) :
    Calls Tryd.prog 51 #[.agg #[.slice (some ⟨g, 0, none⟩) n cap, .slice ad2 m c2, .int .i64 y], .int .i64 q] w fun e w' => e = .returned (.tuple #[]) ∧ Below w.heap.size w w' :=
  (moves_any s g n cap ad2 m c2 q y hn hm4 hq h4 w hg hc hv).mono fun e w' ⟨he, hb⟩ => ⟨by rw [he, h]; rfl, hb⟩

/-- What a head that stands says. -/
theorem head_says (s : ByteArray) (h : headBad s = .none) : 8 ≤ (s.size : Int) ∧ 1 ≤ bt s 6 ∧ bt s 6 ≤ 4 ∧ 0 ≤ bt s 7 ∧ bt s 7 ≤ 4 := by
  have h7 := bt_bd s 7
  unfold headBad at h
  cases hm : magicBad s 4 0 with
  | some x => rw [hm] at h; cases h
  | none =>
    rw [hm] at h
    simp only at h
    by_cases a : (s.size : Int) < 8
    · rw [if_pos a] at h; cases h
    rw [if_neg a] at h
    by_cases b : bt s 6 < 1 ∨ 4 < bt s 6
    · rw [if_pos b] at h; cases h
    rw [if_neg b] at h
    by_cases c : 4 < bt s 7
    · rw [if_pos c] at h; cases h
    omega

set_option maxRecDepth 100000 in
set_option maxHeartbeats 4000000 in
theorem image_any (s : ByteArray) (hs : s.size ≤ 300) (w : World) :
    Calls Tryd.prog 29 #[.string s] w fun e w' => e = outc (vetBad s) (.tuple #[]) ∧ Below w.heap.size w w' := by
  cases hH : headBad s with
  | some x =>
    have HV : Hid (vetBad s = some x) := by show vetBad s = _; unfold vetBad; rw [hH]
    have HH : Hid (headBad s = some x) := hH
    clear hH
    go_enter Tryd.func29, Tryd.ntmps29
    go_wp2_with (go_at_call 46; refine (head_no s x hs HH.out _).mono ?_; rintro e w1 ⟨rfl, nq, rfl⟩)
    exact ⟨rfl, by rw [HV.out]; rfl, below_drewN (Below.refl _ _) _⟩
  | none =>
    obtain ⟨l8, n1, n4, m0, m4⟩ := head_says s hH
    have HH : Hid (headBad s = .none) := hH
    have l6 : 6 < s.size := by omega
    have l7 : 7 < s.size := by omega
    have L6 : (6 : Int) < (s.size : Int) := by omega
    have L7 : (7 : Int) < (s.size : Int) := by omega
    have g6 : ((s[6]'l6).toNat : Int) = bt s 6 := bt_nat s 6 l6
    have g7 : ((s[7]'l7).toNat : Int) = bt s 7 := bt_nat s 7 l7
    by_cases hL : (s.size : Int) < 8 + 8 * bt s 6 + 4 * bt s 7
    · have HV : Hid (vetBad s = some (s.size : Int)) := by show vetBad s = _; unfold vetBad; rw [hH]; simp only; rw [if_pos hL]
      clear hH
      have d1 : decide (8 + bt s 6 * 8 + bt s 7 * 4 ≤ (s.size : Int)) = false := by simp; omega
      go_enter Tryd.func29, Tryd.ntmps29
      go_wp2_with (first | (go_at_call 46; refine (head_yes s hs HH.out _).mono ?_; rintro e w1 ⟨rfl, nq, rfl⟩) | (go_at_call 48; refine (bodyOf_any s L7 _).mono ?_; rintro e w1 ⟨rfl, nb, rfl⟩) | (go_at_call_of 47 (Value.bool false); refine (demand_no _ _).mono ?_; rintro e w' ⟨rfl, rfl⟩))
      exact ⟨rfl, by rw [HV.out]; rfl, below_drewN (Below.refl _ _) _⟩
    · have d1 : decide (8 + bt s 6 * 8 + bt s 7 * 4 ≤ (s.size : Int)) = true := by simp; omega
      have V1 : vetBad s = match segsBad s (8 + 8 * bt s 6 + 4 * bt s 7) (bt s 6).toNat 8 0 with
        | .some x => .some x
        | .none => match movesBad s (bt s 6).toNat (bt s 7).toNat (8 + 8 * bt s 6) 0 with
          | .some x => .some x
          | .none => if codeB s (two s 4) (bt s 6).toNat = true then .none else some 4 := by
        unfold vetBad; rw [hH]; simp only; rw [if_neg hL]; rfl
      clear hH
      rw [show 8 + 8 * bt s 6 + 4 * bt s 7 = 8 + bt s 6 * 8 + bt s 7 * 4 from by omega, show 8 + 8 * bt s 6 = 8 + bt s 6 * 8 from by omega] at V1
      cases hS : segsBad s (8 + bt s 6 * 8 + bt s 7 * 4) (bt s 6).toNat 8 0 with
      | some x =>
        have HV : Hid (vetBad s = some x) := by show vetBad s = _; rw [V1, hS]
        have HS : Hid (segsBad s (8 + bt s 6 * 8 + bt s 7 * 4) (bt s 6).toNat 8 0 = some x) := hS
        clear V1 hS
        go_enter Tryd.func29, Tryd.ntmps29
        go_wp2_with (first | (go_at_call 46; refine (head_yes s hs HH.out _).mono ?_; rintro e w1 ⟨rfl, nq, rfl⟩) | (go_at_call 48; refine (bodyOf_any s L7 _).mono ?_; rintro e w1 ⟨rfl, nb, rfl⟩) | (go_at_call_of 47 (Value.bool true); refine (demand_yes _ _).mono ?_; rintro e w' ⟨rfl, rfl⟩) | (go_at_call 49; refine (layout_any s (bt s 6).toNat (bt s 7).toNat hs (by omega) (by omega) (by omega) (by omega) (by omega) (by omega) _).mono ?_; rintro e w2 ⟨g, c, ad2, c2, rfl, hb2, hg, hseg, hmv⟩; have HC : Hid (SgAt w2 g s (bt s 6).toNat) := hseg; have HMV : Hid (MvAt w2 ad2 s (8 + 8 * ((bt s 6).toNat : Int)) (bt s 7).toNat) := hmv; have HB2 : Hid (Below w.heap.size w w2) := (below_drewN (Below.refl _ _) _).trans hb2; clear hseg hmv hb2))
        have hz2 := HB2.out.size
        refine wp_region_any (by kernel_rfl) ?_
        (try (change wpAny _ _ _ _ _ _ _ (World.drew _)))
        refine wpAny_take (i := 0) (v := .pointer (some ⟨w2.heap.size, 0, none⟩)) rfl (by kernel_rfl) (by kernel_rfl) (by kernel_rfl) (fun _ _ _ h => h) (Or.inl ⟨by kernel_rfl, ?_⟩) ?_
        · intro w; go_simp
        simp only [Act.put, List.setIfInBounds_toArray]
        refine wpAny_take (i := 2) (v := .string s) rfl (by kernel_rfl) (by kernel_rfl) (by kernel_rfl) (fun _ _ _ h => h) (Or.inl ⟨by kernel_rfl, ?_⟩) ?_
        · intro w; go_simp
        simp only [Act.put]
        refine wpAny_take (i := 4) (v := .string s) rfl (by kernel_rfl) (by kernel_rfl) (by kernel_rfl) (fun _ _ _ h => h) (Or.inl ⟨by kernel_rfl, ?_⟩) ?_
        · intro w; go_simp
        simp only [Act.put]
        refine wpAny_take (i := 5) (v := .int .i64 (s.size : Int)) rfl (by kernel_rfl) (by kernel_rfl) (by kernel_rfl) (fun _ _ _ h => h) (Or.inl ⟨by kernel_rfl, ?_⟩) ?_
        · intro w; go_simp
        simp only [Act.put]
        refine wpAny_ready (rs := [1, 3]) (by kernel_rfl) (by simp) ?_
        refine AllReady.cons rfl (fun K hK => ?_) (AllReady.cons rfl (fun K hK => ?_) AllReady.nil)
        ·
          go_simp
          refine hK _ _ ?_; clear hK K
          refine wpAny_ready (rs := [3]) (by kernel_rfl) (by simp) ?_
          refine AllReady.cons rfl (fun K hK => ?_) AllReady.nil
          go_simp
          go_wp2_with (go_at_call 48; refine (bodyOf_any s L7 _).mono ?_; rintro e w1 ⟨rfl, nb, rfl⟩)
          refine wpAny_ready (rs := [6]) (by kernel_rfl) (by simp) ?_
          refine AllReady.cons rfl (fun K hK => ?_) AllReady.nil
          go_simp
          go_wp2_with (go_at_call 50; refine (segs_no s g (bt s 6).toNat c _ x hs (by omega) HS.out _ (by simp; omega) (HC.out.below hg (by repeat (first | refine below_drewN ?_ _ | refine Below.alloc ?_ (by simp) _ | exact Below.refl _ _)))).mono ?_; rintro e w3 ⟨rfl, hb3⟩)
          have HB3 : Hid (Below w2.heap.size w2 w3) := Below.trans (by repeat (first | refine below_drewN ?_ _ | refine Below.alloc ?_ (by simp) _ | exact Below.refl _ _)) (hb3.mono (by simp))
          have hz3 := hb3.size
          simp at hz3
          exact ⟨rfl, by rw [HV.out]; rfl, HB2.out.trans (HB3.out.mono hz2)⟩
        ·
          go_simp
          go_wp2_with (go_at_call 48; refine (bodyOf_any s L7 _).mono ?_; rintro e w1 ⟨rfl, nb, rfl⟩)
          refine wpAny_ready (rs := [1]) (by kernel_rfl) (by simp) ?_
          refine AllReady.cons rfl (fun K hK => ?_) AllReady.nil
          go_simp
          refine hK _ _ ?_; clear hK K
          refine wpAny_ready (rs := [6]) (by kernel_rfl) (by simp) ?_
          refine AllReady.cons rfl (fun K hK => ?_) AllReady.nil
          go_simp
          go_wp2_with (go_at_call 50; refine (segs_no s g (bt s 6).toNat c _ x hs (by omega) HS.out _ (by simp; omega) (HC.out.below hg (by repeat (first | refine below_drewN ?_ _ | refine Below.alloc ?_ (by simp) _ | exact Below.refl _ _)))).mono ?_; rintro e w3 ⟨rfl, hb3⟩)
          have HB3 : Hid (Below w2.heap.size w2 w3) := Below.trans (by repeat (first | refine below_drewN ?_ _ | refine Below.alloc ?_ (by simp) _ | exact Below.refl _ _)) (hb3.mono (by simp))
          have hz3 := hb3.size
          simp at hz3
          exact ⟨rfl, by rw [HV.out]; rfl, HB2.out.trans (HB3.out.mono hz2)⟩
      | none =>
        rw [hS] at V1
        simp only at V1
        have HS : Hid (segsBad s (8 + bt s 6 * 8 + bt s 7 * 4) (bt s 6).toNat 8 0 = .none) := hS
        have H4 : Hid (∀ k : Nat, k < (bt s 6).toNat → bt s (8 + 8 * (k : Int) + 2) ≤ 4) := segs_good s _ _ 8 0 hS
        clear hS
        cases hM : movesBad s (bt s 6).toNat (bt s 7).toNat (8 + bt s 6 * 8) 0 with
        | some x =>
          have HV : Hid (vetBad s = some x) := by show vetBad s = _; rw [V1, hM]
          have HM : Hid (movesBad s (bt s 6).toNat (bt s 7).toNat (8 + bt s 6 * 8) 0 = some x) := hM
          clear V1 hM
          go_enter Tryd.func29, Tryd.ntmps29
          go_wp2_with (first | (go_at_call 46; refine (head_yes s hs HH.out _).mono ?_; rintro e w1 ⟨rfl, nq, rfl⟩) | (go_at_call 48; refine (bodyOf_any s L7 _).mono ?_; rintro e w1 ⟨rfl, nb, rfl⟩) | (go_at_call_of 47 (Value.bool true); refine (demand_yes _ _).mono ?_; rintro e w' ⟨rfl, rfl⟩) | (go_at_call 49; refine (layout_any s (bt s 6).toNat (bt s 7).toNat hs (by omega) (by omega) (by omega) (by omega) (by omega) (by omega) _).mono ?_; rintro e w2 ⟨g, c, ad2, c2, rfl, hb2, hg, hseg, hmv⟩; have HC : Hid (SgAt w2 g s (bt s 6).toNat) := hseg; have HMV : Hid (MvAt w2 ad2 s (8 + 8 * ((bt s 6).toNat : Int)) (bt s 7).toNat) := hmv; have HB2 : Hid (Below w.heap.size w w2) := (below_drewN (Below.refl _ _) _).trans hb2; clear hseg hmv hb2))
          have hz2 := HB2.out.size
          refine wp_region_any (by kernel_rfl) ?_
          (try (change wpAny _ _ _ _ _ _ _ (World.drew _)))
          refine wpAny_take (i := 0) (v := .pointer (some ⟨w2.heap.size, 0, none⟩)) rfl (by kernel_rfl) (by kernel_rfl) (by kernel_rfl) (fun _ _ _ h => h) (Or.inl ⟨by kernel_rfl, ?_⟩) ?_
          · intro w; go_simp
          simp only [Act.put, List.setIfInBounds_toArray]
          refine wpAny_take (i := 2) (v := .string s) rfl (by kernel_rfl) (by kernel_rfl) (by kernel_rfl) (fun _ _ _ h => h) (Or.inl ⟨by kernel_rfl, ?_⟩) ?_
          · intro w; go_simp
          simp only [Act.put]
          refine wpAny_take (i := 4) (v := .string s) rfl (by kernel_rfl) (by kernel_rfl) (by kernel_rfl) (fun _ _ _ h => h) (Or.inl ⟨by kernel_rfl, ?_⟩) ?_
          · intro w; go_simp
          simp only [Act.put]
          refine wpAny_take (i := 5) (v := .int .i64 (s.size : Int)) rfl (by kernel_rfl) (by kernel_rfl) (by kernel_rfl) (fun _ _ _ h => h) (Or.inl ⟨by kernel_rfl, ?_⟩) ?_
          · intro w; go_simp
          simp only [Act.put]
          refine wpAny_ready (rs := [1, 3]) (by kernel_rfl) (by simp) ?_
          refine AllReady.cons rfl (fun K hK => ?_) (AllReady.cons rfl (fun K hK => ?_) AllReady.nil)
          ·
            go_simp
            refine hK _ _ ?_; clear hK K
            refine wpAny_ready (rs := [3]) (by kernel_rfl) (by simp) ?_
            refine AllReady.cons rfl (fun K hK => ?_) AllReady.nil
            go_simp
            go_wp2_with (go_at_call 48; refine (bodyOf_any s L7 _).mono ?_; rintro e w1 ⟨rfl, nb, rfl⟩)
            refine wpAny_ready (rs := [6]) (by kernel_rfl) (by simp) ?_
            refine AllReady.cons rfl (fun K hK => ?_) AllReady.nil
            go_simp
            go_wp2_with (go_at_call 50; refine (segs_yes s g (bt s 6).toNat c _ hs (by omega) HS.out _ (by simp; omega) (HC.out.below hg (by repeat (first | refine below_drewN ?_ _ | refine Below.alloc ?_ (by simp) _ | exact Below.refl _ _)))).mono ?_; rintro e w3 ⟨rfl, hb3⟩)
            refine wpAny_done (by kernel_rfl) ?_ _
            have HB3 : Hid (Below w2.heap.size w2 w3) := Below.trans (by repeat (first | refine below_drewN ?_ _ | refine Below.alloc ?_ (by simp) _ | exact Below.refl _ _)) (hb3.mono (by simp))
            have hz3 := hb3.size
            simp at hz3
            have k0 : w3.cell? ⟨w2.heap.size, 0, none⟩ = some (.slice (some ⟨g, 0, none⟩) (bt s 6).toNat c) := (hb3.cell (p := ⟨w2.heap.size, 0, none⟩) (by simp)).trans (by simp [go_sem])
            have k1 : w3.cell? ⟨w2.heap.size, 1, none⟩ = some (.slice ad2 (bt s 7).toNat c2) := (hb3.cell (p := ⟨w2.heap.size, 1, none⟩) (by simp)).trans (by simp [go_sem])
            have k2 : w3.cell? ⟨w2.heap.size, 2, none⟩ = some (.int .i64 (two s 4)) := (hb3.cell (p := ⟨w2.heap.size, 2, none⟩) (by simp)).trans (by simp [go_sem])
            clear hb3
            have q3 : w2.heap.size < w3.heap.size := by omega
            have HMV' : Hid (MvAt w2 ad2 s (8 + bt s 6 * 8) (bt s 7).toNat) := by
              show MvAt w2 ad2 s (8 + bt s 6 * 8) (bt s 7).toNat
              rw [show (8 : Int) + bt s 6 * 8 = 8 + 8 * ((bt s 6).toNat : Int) from by omega]
              exact HMV.out
            go_wp2_with fail
            refine wp_region_any (by kernel_rfl) ?_
            (try (change wpAny _ _ _ _ _ _ _ (World.drew _)))
            refine wpAny_take (i := 1) (v := .string s) rfl (by kernel_rfl) (by kernel_rfl) (by kernel_rfl) (fun _ _ _ h => h) (Or.inl ⟨by kernel_rfl, ?_⟩) ?_
            · intro w; go_simp
            simp only [Act.put, List.setIfInBounds_toArray]
            refine wpAny_ready (rs := [0, 2]) (by kernel_rfl) (by simp) ?_
            refine AllReady.cons rfl (fun K hK => ?_) (AllReady.cons rfl (fun K hK => ?_) AllReady.nil)
            ·
              go_simp
              refine hK _ _ ?_; clear hK K
              refine wpAny_ready (rs := [2]) (by kernel_rfl) (by simp) ?_
              refine AllReady.cons rfl (fun K hK => ?_) AllReady.nil
              go_simp
              go_wp2_with (go_at_call 52; refine (movesOf_any s L6 _).mono ?_; rintro e w' ⟨rfl, rfl⟩)
              refine wpAny_ready (rs := [3]) (by kernel_rfl) (by simp) ?_
              refine AllReady.cons rfl (fun K hK => ?_) AllReady.nil
              go_simp
              go_wp2_with (go_at_call 51; refine (moves_no s g (bt s 6).toNat c ad2 (bt s 7).toNat c2 _ _ x (by omega) (by omega) (by omega) H4.out HM.out _ (by simp; omega) (HC.out.below hg (below_drewN HB3.out 1)) (HMV'.out.below (below_drewN HB3.out 1))).mono ?_; rintro e w4 ⟨rfl, hb4⟩)
              have HB4 : Hid (Below w2.heap.size w2 w4) := (below_drewN HB3.out 1).trans (hb4.mono (by simp; omega))
              have hz4 := hb4.size
              simp at hz4
              exact ⟨rfl, by rw [HV.out]; rfl, HB2.out.trans (HB4.out.mono hz2)⟩
            ·
              go_simp
              go_wp2_with (go_at_call 52; refine (movesOf_any s L6 _).mono ?_; rintro e w' ⟨rfl, rfl⟩)
              refine wpAny_ready (rs := [0]) (by kernel_rfl) (by simp) ?_
              refine AllReady.cons rfl (fun K hK => ?_) AllReady.nil
              go_simp
              refine hK _ _ ?_; clear hK K
              refine wpAny_ready (rs := [3]) (by kernel_rfl) (by simp) ?_
              refine AllReady.cons rfl (fun K hK => ?_) AllReady.nil
              go_simp
              go_wp2_with (go_at_call 51; refine (moves_no s g (bt s 6).toNat c ad2 (bt s 7).toNat c2 _ _ x (by omega) (by omega) (by omega) H4.out HM.out _ (by simp; omega) (HC.out.below hg (below_drewN HB3.out 1)) (HMV'.out.below (below_drewN HB3.out 1))).mono ?_; rintro e w4 ⟨rfl, hb4⟩)
              have HB4 : Hid (Below w2.heap.size w2 w4) := (below_drewN HB3.out 1).trans (hb4.mono (by simp; omega))
              have hz4 := hb4.size
              simp at hz4
              exact ⟨rfl, by rw [HV.out]; rfl, HB2.out.trans (HB4.out.mono hz2)⟩
          ·
            go_simp
            go_wp2_with (go_at_call 48; refine (bodyOf_any s L7 _).mono ?_; rintro e w1 ⟨rfl, nb, rfl⟩)
            refine wpAny_ready (rs := [1]) (by kernel_rfl) (by simp) ?_
            refine AllReady.cons rfl (fun K hK => ?_) AllReady.nil
            go_simp
            refine hK _ _ ?_; clear hK K
            refine wpAny_ready (rs := [6]) (by kernel_rfl) (by simp) ?_
            refine AllReady.cons rfl (fun K hK => ?_) AllReady.nil
            go_simp
            go_wp2_with (go_at_call 50; refine (segs_yes s g (bt s 6).toNat c _ hs (by omega) HS.out _ (by simp; omega) (HC.out.below hg (by repeat (first | refine below_drewN ?_ _ | refine Below.alloc ?_ (by simp) _ | exact Below.refl _ _)))).mono ?_; rintro e w3 ⟨rfl, hb3⟩)
            refine wpAny_done (by kernel_rfl) ?_ _
            have HB3 : Hid (Below w2.heap.size w2 w3) := Below.trans (by repeat (first | refine below_drewN ?_ _ | refine Below.alloc ?_ (by simp) _ | exact Below.refl _ _)) (hb3.mono (by simp))
            have hz3 := hb3.size
            simp at hz3
            have k0 : w3.cell? ⟨w2.heap.size, 0, none⟩ = some (.slice (some ⟨g, 0, none⟩) (bt s 6).toNat c) := (hb3.cell (p := ⟨w2.heap.size, 0, none⟩) (by simp)).trans (by simp [go_sem])
            have k1 : w3.cell? ⟨w2.heap.size, 1, none⟩ = some (.slice ad2 (bt s 7).toNat c2) := (hb3.cell (p := ⟨w2.heap.size, 1, none⟩) (by simp)).trans (by simp [go_sem])
            have k2 : w3.cell? ⟨w2.heap.size, 2, none⟩ = some (.int .i64 (two s 4)) := (hb3.cell (p := ⟨w2.heap.size, 2, none⟩) (by simp)).trans (by simp [go_sem])
            clear hb3
            have q3 : w2.heap.size < w3.heap.size := by omega
            have HMV' : Hid (MvAt w2 ad2 s (8 + bt s 6 * 8) (bt s 7).toNat) := by
              show MvAt w2 ad2 s (8 + bt s 6 * 8) (bt s 7).toNat
              rw [show (8 : Int) + bt s 6 * 8 = 8 + 8 * ((bt s 6).toNat : Int) from by omega]
              exact HMV.out
            go_wp2_with fail
            refine wp_region_any (by kernel_rfl) ?_
            (try (change wpAny _ _ _ _ _ _ _ (World.drew _)))
            refine wpAny_take (i := 1) (v := .string s) rfl (by kernel_rfl) (by kernel_rfl) (by kernel_rfl) (fun _ _ _ h => h) (Or.inl ⟨by kernel_rfl, ?_⟩) ?_
            · intro w; go_simp
            simp only [Act.put, List.setIfInBounds_toArray]
            refine wpAny_ready (rs := [0, 2]) (by kernel_rfl) (by simp) ?_
            refine AllReady.cons rfl (fun K hK => ?_) (AllReady.cons rfl (fun K hK => ?_) AllReady.nil)
            ·
              go_simp
              refine hK _ _ ?_; clear hK K
              refine wpAny_ready (rs := [2]) (by kernel_rfl) (by simp) ?_
              refine AllReady.cons rfl (fun K hK => ?_) AllReady.nil
              go_simp
              go_wp2_with (go_at_call 52; refine (movesOf_any s L6 _).mono ?_; rintro e w' ⟨rfl, rfl⟩)
              refine wpAny_ready (rs := [3]) (by kernel_rfl) (by simp) ?_
              refine AllReady.cons rfl (fun K hK => ?_) AllReady.nil
              go_simp
              go_wp2_with (go_at_call 51; refine (moves_no s g (bt s 6).toNat c ad2 (bt s 7).toNat c2 _ _ x (by omega) (by omega) (by omega) H4.out HM.out _ (by simp; omega) (HC.out.below hg (below_drewN HB3.out 1)) (HMV'.out.below (below_drewN HB3.out 1))).mono ?_; rintro e w4 ⟨rfl, hb4⟩)
              have HB4 : Hid (Below w2.heap.size w2 w4) := (below_drewN HB3.out 1).trans (hb4.mono (by simp; omega))
              have hz4 := hb4.size
              simp at hz4
              exact ⟨rfl, by rw [HV.out]; rfl, HB2.out.trans (HB4.out.mono hz2)⟩
            ·
              go_simp
              go_wp2_with (go_at_call 52; refine (movesOf_any s L6 _).mono ?_; rintro e w' ⟨rfl, rfl⟩)
              refine wpAny_ready (rs := [0]) (by kernel_rfl) (by simp) ?_
              refine AllReady.cons rfl (fun K hK => ?_) AllReady.nil
              go_simp
              refine hK _ _ ?_; clear hK K
              refine wpAny_ready (rs := [3]) (by kernel_rfl) (by simp) ?_
              refine AllReady.cons rfl (fun K hK => ?_) AllReady.nil
              go_simp
              go_wp2_with (go_at_call 51; refine (moves_no s g (bt s 6).toNat c ad2 (bt s 7).toNat c2 _ _ x (by omega) (by omega) (by omega) H4.out HM.out _ (by simp; omega) (HC.out.below hg (below_drewN HB3.out 1)) (HMV'.out.below (below_drewN HB3.out 1))).mono ?_; rintro e w4 ⟨rfl, hb4⟩)
              have HB4 : Hid (Below w2.heap.size w2 w4) := (below_drewN HB3.out 1).trans (hb4.mono (by simp; omega))
              have hz4 := hb4.size
              simp at hz4
              exact ⟨rfl, by rw [HV.out]; rfl, HB2.out.trans (HB4.out.mono hz2)⟩
        | none =>
          rw [hM] at V1
          simp only at V1
          have HM : Hid (movesBad s (bt s 6).toNat (bt s 7).toNat (8 + bt s 6 * 8) 0 = .none) := hM
          clear hM
          have t4 := two_bd s 4
          cases hC : codeB s (two s 4) (bt s 6).toNat with
          | true =>
            have HV : Hid (vetBad s = .none) := by show vetBad s = _; rw [V1, hC]; rfl
            clear V1
            go_enter Tryd.func29, Tryd.ntmps29
            go_wp2_with (first | (go_at_call 46; refine (head_yes s hs HH.out _).mono ?_; rintro e w1 ⟨rfl, nq, rfl⟩) | (go_at_call 48; refine (bodyOf_any s L7 _).mono ?_; rintro e w1 ⟨rfl, nb, rfl⟩) | (go_at_call_of 47 (Value.bool true); refine (demand_yes _ _).mono ?_; rintro e w' ⟨rfl, rfl⟩) | (go_at_call 49; refine (layout_any s (bt s 6).toNat (bt s 7).toNat hs (by omega) (by omega) (by omega) (by omega) (by omega) (by omega) _).mono ?_; rintro e w2 ⟨g, c, ad2, c2, rfl, hb2, hg, hseg, hmv⟩; have HC : Hid (SgAt w2 g s (bt s 6).toNat) := hseg; have HMV : Hid (MvAt w2 ad2 s (8 + 8 * ((bt s 6).toNat : Int)) (bt s 7).toNat) := hmv; have HB2 : Hid (Below w.heap.size w w2) := (below_drewN (Below.refl _ _) _).trans hb2; clear hseg hmv hb2))
            have hz2 := HB2.out.size
            refine wp_region_any (by kernel_rfl) ?_
            (try (change wpAny _ _ _ _ _ _ _ (World.drew _)))
            refine wpAny_take (i := 0) (v := .pointer (some ⟨w2.heap.size, 0, none⟩)) rfl (by kernel_rfl) (by kernel_rfl) (by kernel_rfl) (fun _ _ _ h => h) (Or.inl ⟨by kernel_rfl, ?_⟩) ?_
            · intro w; go_simp
            simp only [Act.put, List.setIfInBounds_toArray]
            refine wpAny_take (i := 2) (v := .string s) rfl (by kernel_rfl) (by kernel_rfl) (by kernel_rfl) (fun _ _ _ h => h) (Or.inl ⟨by kernel_rfl, ?_⟩) ?_
            · intro w; go_simp
            simp only [Act.put]
            refine wpAny_take (i := 4) (v := .string s) rfl (by kernel_rfl) (by kernel_rfl) (by kernel_rfl) (fun _ _ _ h => h) (Or.inl ⟨by kernel_rfl, ?_⟩) ?_
            · intro w; go_simp
            simp only [Act.put]
            refine wpAny_take (i := 5) (v := .int .i64 (s.size : Int)) rfl (by kernel_rfl) (by kernel_rfl) (by kernel_rfl) (fun _ _ _ h => h) (Or.inl ⟨by kernel_rfl, ?_⟩) ?_
            · intro w; go_simp
            simp only [Act.put]
            refine wpAny_ready (rs := [1, 3]) (by kernel_rfl) (by simp) ?_
            refine AllReady.cons rfl (fun K hK => ?_) (AllReady.cons rfl (fun K hK => ?_) AllReady.nil)
            ·
              go_simp
              refine hK _ _ ?_; clear hK K
              refine wpAny_ready (rs := [3]) (by kernel_rfl) (by simp) ?_
              refine AllReady.cons rfl (fun K hK => ?_) AllReady.nil
              go_simp
              go_wp2_with (go_at_call 48; refine (bodyOf_any s L7 _).mono ?_; rintro e w1 ⟨rfl, nb, rfl⟩)
              refine wpAny_ready (rs := [6]) (by kernel_rfl) (by simp) ?_
              refine AllReady.cons rfl (fun K hK => ?_) AllReady.nil
              go_simp
              go_wp2_with (go_at_call 50; refine (segs_yes s g (bt s 6).toNat c _ hs (by omega) HS.out _ (by simp; omega) (HC.out.below hg (by repeat (first | refine below_drewN ?_ _ | refine Below.alloc ?_ (by simp) _ | exact Below.refl _ _)))).mono ?_; rintro e w3 ⟨rfl, hb3⟩)
              refine wpAny_done (by kernel_rfl) ?_ _
              have HB3 : Hid (Below w2.heap.size w2 w3) := Below.trans (by repeat (first | refine below_drewN ?_ _ | refine Below.alloc ?_ (by simp) _ | exact Below.refl _ _)) (hb3.mono (by simp))
              have hz3 := hb3.size
              simp at hz3
              have k0 : w3.cell? ⟨w2.heap.size, 0, none⟩ = some (.slice (some ⟨g, 0, none⟩) (bt s 6).toNat c) := (hb3.cell (p := ⟨w2.heap.size, 0, none⟩) (by simp)).trans (by simp [go_sem])
              have k1 : w3.cell? ⟨w2.heap.size, 1, none⟩ = some (.slice ad2 (bt s 7).toNat c2) := (hb3.cell (p := ⟨w2.heap.size, 1, none⟩) (by simp)).trans (by simp [go_sem])
              have k2 : w3.cell? ⟨w2.heap.size, 2, none⟩ = some (.int .i64 (two s 4)) := (hb3.cell (p := ⟨w2.heap.size, 2, none⟩) (by simp)).trans (by simp [go_sem])
              clear hb3
              have q3 : w2.heap.size < w3.heap.size := by omega
              have HMV' : Hid (MvAt w2 ad2 s (8 + bt s 6 * 8) (bt s 7).toNat) := by
                show MvAt w2 ad2 s (8 + bt s 6 * 8) (bt s 7).toNat
                rw [show (8 : Int) + bt s 6 * 8 = 8 + 8 * ((bt s 6).toNat : Int) from by omega]
                exact HMV.out
              go_wp2_with fail
              refine wp_region_any (by kernel_rfl) ?_
              (try (change wpAny _ _ _ _ _ _ _ (World.drew _)))
              refine wpAny_take (i := 1) (v := .string s) rfl (by kernel_rfl) (by kernel_rfl) (by kernel_rfl) (fun _ _ _ h => h) (Or.inl ⟨by kernel_rfl, ?_⟩) ?_
              · intro w; go_simp
              simp only [Act.put, List.setIfInBounds_toArray]
              refine wpAny_ready (rs := [0, 2]) (by kernel_rfl) (by simp) ?_
              refine AllReady.cons rfl (fun K hK => ?_) (AllReady.cons rfl (fun K hK => ?_) AllReady.nil)
              ·
                go_simp
                refine hK _ _ ?_; clear hK K
                refine wpAny_ready (rs := [2]) (by kernel_rfl) (by simp) ?_
                refine AllReady.cons rfl (fun K hK => ?_) AllReady.nil
                go_simp
                go_wp2_with (go_at_call 52; refine (movesOf_any s L6 _).mono ?_; rintro e w' ⟨rfl, rfl⟩)
                refine wpAny_ready (rs := [3]) (by kernel_rfl) (by simp) ?_
                refine AllReady.cons rfl (fun K hK => ?_) AllReady.nil
                go_simp
                go_wp2_with (go_at_call 51; refine (moves_yes s g (bt s 6).toNat c ad2 (bt s 7).toNat c2 _ _ (by omega) (by omega) (by omega) H4.out HM.out _ (by simp; omega) (HC.out.below hg (below_drewN HB3.out 1)) (HMV'.out.below (below_drewN HB3.out 1))).mono ?_; rintro e w4 ⟨rfl, hb4⟩)
                refine wpAny_done (by kernel_rfl) ?_ _
                have HB4 : Hid (Below w2.heap.size w2 w4) := (below_drewN HB3.out 1).trans (hb4.mono (by simp; omega))
                have hz4 := hb4.size
                simp at hz4
                have m0 : w4.cell? ⟨w2.heap.size, 0, none⟩ = some (.slice (some ⟨g, 0, none⟩) (bt s 6).toNat c) := (hb4.cell (p := ⟨w2.heap.size, 0, none⟩) (by simp; omega)).trans k0
                have m1 : w4.cell? ⟨w2.heap.size, 1, none⟩ = some (.slice ad2 (bt s 7).toNat c2) := (hb4.cell (p := ⟨w2.heap.size, 1, none⟩) (by simp; omega)).trans k1
                have m2 : w4.cell? ⟨w2.heap.size, 2, none⟩ = some (.int .i64 (two s 4)) := (hb4.cell (p := ⟨w2.heap.size, 2, none⟩) (by simp; omega)).trans k2
                clear hb4 k0 k1 k2
                have q4 : w2.heap.size < w4.heap.size := by omega
                go_wp2_with (first | (go_at_call 53; refine (isCode_any s g (bt s 6).toNat c _ t4 (by omega) _ (by omega) (HC.out.below hg HB4.out)).mono ?_; rintro e w5 ⟨rfl, hb5⟩) | (go_at_call_of 47 (Value.bool true); refine (demand_yes _ _).mono ?_; rintro e w' ⟨rfl, rfl⟩))
                go_end0
                exact ⟨by rw [HV.out]; rfl, (HB2.out.trans (HB4.out.mono hz2)).trans (hb5.mono (by omega))⟩
              ·
                go_simp
                go_wp2_with (go_at_call 52; refine (movesOf_any s L6 _).mono ?_; rintro e w' ⟨rfl, rfl⟩)
                refine wpAny_ready (rs := [0]) (by kernel_rfl) (by simp) ?_
                refine AllReady.cons rfl (fun K hK => ?_) AllReady.nil
                go_simp
                refine hK _ _ ?_; clear hK K
                refine wpAny_ready (rs := [3]) (by kernel_rfl) (by simp) ?_
                refine AllReady.cons rfl (fun K hK => ?_) AllReady.nil
                go_simp
                go_wp2_with (go_at_call 51; refine (moves_yes s g (bt s 6).toNat c ad2 (bt s 7).toNat c2 _ _ (by omega) (by omega) (by omega) H4.out HM.out _ (by simp; omega) (HC.out.below hg (below_drewN HB3.out 1)) (HMV'.out.below (below_drewN HB3.out 1))).mono ?_; rintro e w4 ⟨rfl, hb4⟩)
                refine wpAny_done (by kernel_rfl) ?_ _
                have HB4 : Hid (Below w2.heap.size w2 w4) := (below_drewN HB3.out 1).trans (hb4.mono (by simp; omega))
                have hz4 := hb4.size
                simp at hz4
                have m0 : w4.cell? ⟨w2.heap.size, 0, none⟩ = some (.slice (some ⟨g, 0, none⟩) (bt s 6).toNat c) := (hb4.cell (p := ⟨w2.heap.size, 0, none⟩) (by simp; omega)).trans k0
                have m1 : w4.cell? ⟨w2.heap.size, 1, none⟩ = some (.slice ad2 (bt s 7).toNat c2) := (hb4.cell (p := ⟨w2.heap.size, 1, none⟩) (by simp; omega)).trans k1
                have m2 : w4.cell? ⟨w2.heap.size, 2, none⟩ = some (.int .i64 (two s 4)) := (hb4.cell (p := ⟨w2.heap.size, 2, none⟩) (by simp; omega)).trans k2
                clear hb4 k0 k1 k2
                have q4 : w2.heap.size < w4.heap.size := by omega
                go_wp2_with (first | (go_at_call 53; refine (isCode_any s g (bt s 6).toNat c _ t4 (by omega) _ (by omega) (HC.out.below hg HB4.out)).mono ?_; rintro e w5 ⟨rfl, hb5⟩) | (go_at_call_of 47 (Value.bool true); refine (demand_yes _ _).mono ?_; rintro e w' ⟨rfl, rfl⟩))
                go_end0
                exact ⟨by rw [HV.out]; rfl, (HB2.out.trans (HB4.out.mono hz2)).trans (hb5.mono (by omega))⟩
            ·
              go_simp
              go_wp2_with (go_at_call 48; refine (bodyOf_any s L7 _).mono ?_; rintro e w1 ⟨rfl, nb, rfl⟩)
              refine wpAny_ready (rs := [1]) (by kernel_rfl) (by simp) ?_
              refine AllReady.cons rfl (fun K hK => ?_) AllReady.nil
              go_simp
              refine hK _ _ ?_; clear hK K
              refine wpAny_ready (rs := [6]) (by kernel_rfl) (by simp) ?_
              refine AllReady.cons rfl (fun K hK => ?_) AllReady.nil
              go_simp
              go_wp2_with (go_at_call 50; refine (segs_yes s g (bt s 6).toNat c _ hs (by omega) HS.out _ (by simp; omega) (HC.out.below hg (by repeat (first | refine below_drewN ?_ _ | refine Below.alloc ?_ (by simp) _ | exact Below.refl _ _)))).mono ?_; rintro e w3 ⟨rfl, hb3⟩)
              refine wpAny_done (by kernel_rfl) ?_ _
              have HB3 : Hid (Below w2.heap.size w2 w3) := Below.trans (by repeat (first | refine below_drewN ?_ _ | refine Below.alloc ?_ (by simp) _ | exact Below.refl _ _)) (hb3.mono (by simp))
              have hz3 := hb3.size
              simp at hz3
              have k0 : w3.cell? ⟨w2.heap.size, 0, none⟩ = some (.slice (some ⟨g, 0, none⟩) (bt s 6).toNat c) := (hb3.cell (p := ⟨w2.heap.size, 0, none⟩) (by simp)).trans (by simp [go_sem])
              have k1 : w3.cell? ⟨w2.heap.size, 1, none⟩ = some (.slice ad2 (bt s 7).toNat c2) := (hb3.cell (p := ⟨w2.heap.size, 1, none⟩) (by simp)).trans (by simp [go_sem])
              have k2 : w3.cell? ⟨w2.heap.size, 2, none⟩ = some (.int .i64 (two s 4)) := (hb3.cell (p := ⟨w2.heap.size, 2, none⟩) (by simp)).trans (by simp [go_sem])
              clear hb3
              have q3 : w2.heap.size < w3.heap.size := by omega
              have HMV' : Hid (MvAt w2 ad2 s (8 + bt s 6 * 8) (bt s 7).toNat) := by
                show MvAt w2 ad2 s (8 + bt s 6 * 8) (bt s 7).toNat
                rw [show (8 : Int) + bt s 6 * 8 = 8 + 8 * ((bt s 6).toNat : Int) from by omega]
                exact HMV.out
              go_wp2_with fail
              refine wp_region_any (by kernel_rfl) ?_
              (try (change wpAny _ _ _ _ _ _ _ (World.drew _)))
              refine wpAny_take (i := 1) (v := .string s) rfl (by kernel_rfl) (by kernel_rfl) (by kernel_rfl) (fun _ _ _ h => h) (Or.inl ⟨by kernel_rfl, ?_⟩) ?_
              · intro w; go_simp
              simp only [Act.put, List.setIfInBounds_toArray]
              refine wpAny_ready (rs := [0, 2]) (by kernel_rfl) (by simp) ?_
              refine AllReady.cons rfl (fun K hK => ?_) (AllReady.cons rfl (fun K hK => ?_) AllReady.nil)
              ·
                go_simp
                refine hK _ _ ?_; clear hK K
                refine wpAny_ready (rs := [2]) (by kernel_rfl) (by simp) ?_
                refine AllReady.cons rfl (fun K hK => ?_) AllReady.nil
                go_simp
                go_wp2_with (go_at_call 52; refine (movesOf_any s L6 _).mono ?_; rintro e w' ⟨rfl, rfl⟩)
                refine wpAny_ready (rs := [3]) (by kernel_rfl) (by simp) ?_
                refine AllReady.cons rfl (fun K hK => ?_) AllReady.nil
                go_simp
                go_wp2_with (go_at_call 51; refine (moves_yes s g (bt s 6).toNat c ad2 (bt s 7).toNat c2 _ _ (by omega) (by omega) (by omega) H4.out HM.out _ (by simp; omega) (HC.out.below hg (below_drewN HB3.out 1)) (HMV'.out.below (below_drewN HB3.out 1))).mono ?_; rintro e w4 ⟨rfl, hb4⟩)
                refine wpAny_done (by kernel_rfl) ?_ _
                have HB4 : Hid (Below w2.heap.size w2 w4) := (below_drewN HB3.out 1).trans (hb4.mono (by simp; omega))
                have hz4 := hb4.size
                simp at hz4
                have m0 : w4.cell? ⟨w2.heap.size, 0, none⟩ = some (.slice (some ⟨g, 0, none⟩) (bt s 6).toNat c) := (hb4.cell (p := ⟨w2.heap.size, 0, none⟩) (by simp; omega)).trans k0
                have m1 : w4.cell? ⟨w2.heap.size, 1, none⟩ = some (.slice ad2 (bt s 7).toNat c2) := (hb4.cell (p := ⟨w2.heap.size, 1, none⟩) (by simp; omega)).trans k1
                have m2 : w4.cell? ⟨w2.heap.size, 2, none⟩ = some (.int .i64 (two s 4)) := (hb4.cell (p := ⟨w2.heap.size, 2, none⟩) (by simp; omega)).trans k2
                clear hb4 k0 k1 k2
                have q4 : w2.heap.size < w4.heap.size := by omega
                go_wp2_with (first | (go_at_call 53; refine (isCode_any s g (bt s 6).toNat c _ t4 (by omega) _ (by omega) (HC.out.below hg HB4.out)).mono ?_; rintro e w5 ⟨rfl, hb5⟩) | (go_at_call_of 47 (Value.bool true); refine (demand_yes _ _).mono ?_; rintro e w' ⟨rfl, rfl⟩))
                go_end0
                exact ⟨by rw [HV.out]; rfl, (HB2.out.trans (HB4.out.mono hz2)).trans (hb5.mono (by omega))⟩
              ·
                go_simp
                go_wp2_with (go_at_call 52; refine (movesOf_any s L6 _).mono ?_; rintro e w' ⟨rfl, rfl⟩)
                refine wpAny_ready (rs := [0]) (by kernel_rfl) (by simp) ?_
                refine AllReady.cons rfl (fun K hK => ?_) AllReady.nil
                go_simp
                refine hK _ _ ?_; clear hK K
                refine wpAny_ready (rs := [3]) (by kernel_rfl) (by simp) ?_
                refine AllReady.cons rfl (fun K hK => ?_) AllReady.nil
                go_simp
                go_wp2_with (go_at_call 51; refine (moves_yes s g (bt s 6).toNat c ad2 (bt s 7).toNat c2 _ _ (by omega) (by omega) (by omega) H4.out HM.out _ (by simp; omega) (HC.out.below hg (below_drewN HB3.out 1)) (HMV'.out.below (below_drewN HB3.out 1))).mono ?_; rintro e w4 ⟨rfl, hb4⟩)
                refine wpAny_done (by kernel_rfl) ?_ _
                have HB4 : Hid (Below w2.heap.size w2 w4) := (below_drewN HB3.out 1).trans (hb4.mono (by simp; omega))
                have hz4 := hb4.size
                simp at hz4
                have m0 : w4.cell? ⟨w2.heap.size, 0, none⟩ = some (.slice (some ⟨g, 0, none⟩) (bt s 6).toNat c) := (hb4.cell (p := ⟨w2.heap.size, 0, none⟩) (by simp; omega)).trans k0
                have m1 : w4.cell? ⟨w2.heap.size, 1, none⟩ = some (.slice ad2 (bt s 7).toNat c2) := (hb4.cell (p := ⟨w2.heap.size, 1, none⟩) (by simp; omega)).trans k1
                have m2 : w4.cell? ⟨w2.heap.size, 2, none⟩ = some (.int .i64 (two s 4)) := (hb4.cell (p := ⟨w2.heap.size, 2, none⟩) (by simp; omega)).trans k2
                clear hb4 k0 k1 k2
                have q4 : w2.heap.size < w4.heap.size := by omega
                go_wp2_with (first | (go_at_call 53; refine (isCode_any s g (bt s 6).toNat c _ t4 (by omega) _ (by omega) (HC.out.below hg HB4.out)).mono ?_; rintro e w5 ⟨rfl, hb5⟩) | (go_at_call_of 47 (Value.bool true); refine (demand_yes _ _).mono ?_; rintro e w' ⟨rfl, rfl⟩))
                go_end0
                exact ⟨by rw [HV.out]; rfl, (HB2.out.trans (HB4.out.mono hz2)).trans (hb5.mono (by omega))⟩
          | false =>
            have HV : Hid (vetBad s = some 4) := by show vetBad s = _; rw [V1, hC]; rfl
            clear V1
            go_enter Tryd.func29, Tryd.ntmps29
            go_wp2_with (first | (go_at_call 46; refine (head_yes s hs HH.out _).mono ?_; rintro e w1 ⟨rfl, nq, rfl⟩) | (go_at_call 48; refine (bodyOf_any s L7 _).mono ?_; rintro e w1 ⟨rfl, nb, rfl⟩) | (go_at_call_of 47 (Value.bool true); refine (demand_yes _ _).mono ?_; rintro e w' ⟨rfl, rfl⟩) | (go_at_call 49; refine (layout_any s (bt s 6).toNat (bt s 7).toNat hs (by omega) (by omega) (by omega) (by omega) (by omega) (by omega) _).mono ?_; rintro e w2 ⟨g, c, ad2, c2, rfl, hb2, hg, hseg, hmv⟩; have HC : Hid (SgAt w2 g s (bt s 6).toNat) := hseg; have HMV : Hid (MvAt w2 ad2 s (8 + 8 * ((bt s 6).toNat : Int)) (bt s 7).toNat) := hmv; have HB2 : Hid (Below w.heap.size w w2) := (below_drewN (Below.refl _ _) _).trans hb2; clear hseg hmv hb2))
            have hz2 := HB2.out.size
            refine wp_region_any (by kernel_rfl) ?_
            (try (change wpAny _ _ _ _ _ _ _ (World.drew _)))
            refine wpAny_take (i := 0) (v := .pointer (some ⟨w2.heap.size, 0, none⟩)) rfl (by kernel_rfl) (by kernel_rfl) (by kernel_rfl) (fun _ _ _ h => h) (Or.inl ⟨by kernel_rfl, ?_⟩) ?_
            · intro w; go_simp
            simp only [Act.put, List.setIfInBounds_toArray]
            refine wpAny_take (i := 2) (v := .string s) rfl (by kernel_rfl) (by kernel_rfl) (by kernel_rfl) (fun _ _ _ h => h) (Or.inl ⟨by kernel_rfl, ?_⟩) ?_
            · intro w; go_simp
            simp only [Act.put]
            refine wpAny_take (i := 4) (v := .string s) rfl (by kernel_rfl) (by kernel_rfl) (by kernel_rfl) (fun _ _ _ h => h) (Or.inl ⟨by kernel_rfl, ?_⟩) ?_
            · intro w; go_simp
            simp only [Act.put]
            refine wpAny_take (i := 5) (v := .int .i64 (s.size : Int)) rfl (by kernel_rfl) (by kernel_rfl) (by kernel_rfl) (fun _ _ _ h => h) (Or.inl ⟨by kernel_rfl, ?_⟩) ?_
            · intro w; go_simp
            simp only [Act.put]
            refine wpAny_ready (rs := [1, 3]) (by kernel_rfl) (by simp) ?_
            refine AllReady.cons rfl (fun K hK => ?_) (AllReady.cons rfl (fun K hK => ?_) AllReady.nil)
            ·
              go_simp
              refine hK _ _ ?_; clear hK K
              refine wpAny_ready (rs := [3]) (by kernel_rfl) (by simp) ?_
              refine AllReady.cons rfl (fun K hK => ?_) AllReady.nil
              go_simp
              go_wp2_with (go_at_call 48; refine (bodyOf_any s L7 _).mono ?_; rintro e w1 ⟨rfl, nb, rfl⟩)
              refine wpAny_ready (rs := [6]) (by kernel_rfl) (by simp) ?_
              refine AllReady.cons rfl (fun K hK => ?_) AllReady.nil
              go_simp
              go_wp2_with (go_at_call 50; refine (segs_yes s g (bt s 6).toNat c _ hs (by omega) HS.out _ (by simp; omega) (HC.out.below hg (by repeat (first | refine below_drewN ?_ _ | refine Below.alloc ?_ (by simp) _ | exact Below.refl _ _)))).mono ?_; rintro e w3 ⟨rfl, hb3⟩)
              refine wpAny_done (by kernel_rfl) ?_ _
              have HB3 : Hid (Below w2.heap.size w2 w3) := Below.trans (by repeat (first | refine below_drewN ?_ _ | refine Below.alloc ?_ (by simp) _ | exact Below.refl _ _)) (hb3.mono (by simp))
              have hz3 := hb3.size
              simp at hz3
              have k0 : w3.cell? ⟨w2.heap.size, 0, none⟩ = some (.slice (some ⟨g, 0, none⟩) (bt s 6).toNat c) := (hb3.cell (p := ⟨w2.heap.size, 0, none⟩) (by simp)).trans (by simp [go_sem])
              have k1 : w3.cell? ⟨w2.heap.size, 1, none⟩ = some (.slice ad2 (bt s 7).toNat c2) := (hb3.cell (p := ⟨w2.heap.size, 1, none⟩) (by simp)).trans (by simp [go_sem])
              have k2 : w3.cell? ⟨w2.heap.size, 2, none⟩ = some (.int .i64 (two s 4)) := (hb3.cell (p := ⟨w2.heap.size, 2, none⟩) (by simp)).trans (by simp [go_sem])
              clear hb3
              have q3 : w2.heap.size < w3.heap.size := by omega
              have HMV' : Hid (MvAt w2 ad2 s (8 + bt s 6 * 8) (bt s 7).toNat) := by
                show MvAt w2 ad2 s (8 + bt s 6 * 8) (bt s 7).toNat
                rw [show (8 : Int) + bt s 6 * 8 = 8 + 8 * ((bt s 6).toNat : Int) from by omega]
                exact HMV.out
              go_wp2_with fail
              refine wp_region_any (by kernel_rfl) ?_
              (try (change wpAny _ _ _ _ _ _ _ (World.drew _)))
              refine wpAny_take (i := 1) (v := .string s) rfl (by kernel_rfl) (by kernel_rfl) (by kernel_rfl) (fun _ _ _ h => h) (Or.inl ⟨by kernel_rfl, ?_⟩) ?_
              · intro w; go_simp
              simp only [Act.put, List.setIfInBounds_toArray]
              refine wpAny_ready (rs := [0, 2]) (by kernel_rfl) (by simp) ?_
              refine AllReady.cons rfl (fun K hK => ?_) (AllReady.cons rfl (fun K hK => ?_) AllReady.nil)
              ·
                go_simp
                refine hK _ _ ?_; clear hK K
                refine wpAny_ready (rs := [2]) (by kernel_rfl) (by simp) ?_
                refine AllReady.cons rfl (fun K hK => ?_) AllReady.nil
                go_simp
                go_wp2_with (go_at_call 52; refine (movesOf_any s L6 _).mono ?_; rintro e w' ⟨rfl, rfl⟩)
                refine wpAny_ready (rs := [3]) (by kernel_rfl) (by simp) ?_
                refine AllReady.cons rfl (fun K hK => ?_) AllReady.nil
                go_simp
                go_wp2_with (go_at_call 51; refine (moves_yes s g (bt s 6).toNat c ad2 (bt s 7).toNat c2 _ _ (by omega) (by omega) (by omega) H4.out HM.out _ (by simp; omega) (HC.out.below hg (below_drewN HB3.out 1)) (HMV'.out.below (below_drewN HB3.out 1))).mono ?_; rintro e w4 ⟨rfl, hb4⟩)
                refine wpAny_done (by kernel_rfl) ?_ _
                have HB4 : Hid (Below w2.heap.size w2 w4) := (below_drewN HB3.out 1).trans (hb4.mono (by simp; omega))
                have hz4 := hb4.size
                simp at hz4
                have m0 : w4.cell? ⟨w2.heap.size, 0, none⟩ = some (.slice (some ⟨g, 0, none⟩) (bt s 6).toNat c) := (hb4.cell (p := ⟨w2.heap.size, 0, none⟩) (by simp; omega)).trans k0
                have m1 : w4.cell? ⟨w2.heap.size, 1, none⟩ = some (.slice ad2 (bt s 7).toNat c2) := (hb4.cell (p := ⟨w2.heap.size, 1, none⟩) (by simp; omega)).trans k1
                have m2 : w4.cell? ⟨w2.heap.size, 2, none⟩ = some (.int .i64 (two s 4)) := (hb4.cell (p := ⟨w2.heap.size, 2, none⟩) (by simp; omega)).trans k2
                clear hb4 k0 k1 k2
                have q4 : w2.heap.size < w4.heap.size := by omega
                go_wp2_with (first | (go_at_call 53; refine (isCode_any s g (bt s 6).toNat c _ t4 (by omega) _ (by omega) (HC.out.below hg HB4.out)).mono ?_; rintro e w5 ⟨rfl, hb5⟩) | (go_at_call_of 47 (Value.bool false); refine (demand_no _ _).mono ?_; rintro e w' ⟨rfl, rfl⟩))
                exact ⟨rfl, by rw [HV.out]; rfl, (HB2.out.trans (HB4.out.mono hz2)).trans (hb5.mono (by omega))⟩
              ·
                go_simp
                go_wp2_with (go_at_call 52; refine (movesOf_any s L6 _).mono ?_; rintro e w' ⟨rfl, rfl⟩)
                refine wpAny_ready (rs := [0]) (by kernel_rfl) (by simp) ?_
                refine AllReady.cons rfl (fun K hK => ?_) AllReady.nil
                go_simp
                refine hK _ _ ?_; clear hK K
                refine wpAny_ready (rs := [3]) (by kernel_rfl) (by simp) ?_
                refine AllReady.cons rfl (fun K hK => ?_) AllReady.nil
                go_simp
                go_wp2_with (go_at_call 51; refine (moves_yes s g (bt s 6).toNat c ad2 (bt s 7).toNat c2 _ _ (by omega) (by omega) (by omega) H4.out HM.out _ (by simp; omega) (HC.out.below hg (below_drewN HB3.out 1)) (HMV'.out.below (below_drewN HB3.out 1))).mono ?_; rintro e w4 ⟨rfl, hb4⟩)
                refine wpAny_done (by kernel_rfl) ?_ _
                have HB4 : Hid (Below w2.heap.size w2 w4) := (below_drewN HB3.out 1).trans (hb4.mono (by simp; omega))
                have hz4 := hb4.size
                simp at hz4
                have m0 : w4.cell? ⟨w2.heap.size, 0, none⟩ = some (.slice (some ⟨g, 0, none⟩) (bt s 6).toNat c) := (hb4.cell (p := ⟨w2.heap.size, 0, none⟩) (by simp; omega)).trans k0
                have m1 : w4.cell? ⟨w2.heap.size, 1, none⟩ = some (.slice ad2 (bt s 7).toNat c2) := (hb4.cell (p := ⟨w2.heap.size, 1, none⟩) (by simp; omega)).trans k1
                have m2 : w4.cell? ⟨w2.heap.size, 2, none⟩ = some (.int .i64 (two s 4)) := (hb4.cell (p := ⟨w2.heap.size, 2, none⟩) (by simp; omega)).trans k2
                clear hb4 k0 k1 k2
                have q4 : w2.heap.size < w4.heap.size := by omega
                go_wp2_with (first | (go_at_call 53; refine (isCode_any s g (bt s 6).toNat c _ t4 (by omega) _ (by omega) (HC.out.below hg HB4.out)).mono ?_; rintro e w5 ⟨rfl, hb5⟩) | (go_at_call_of 47 (Value.bool false); refine (demand_no _ _).mono ?_; rintro e w' ⟨rfl, rfl⟩))
                exact ⟨rfl, by rw [HV.out]; rfl, (HB2.out.trans (HB4.out.mono hz2)).trans (hb5.mono (by omega))⟩
            ·
              go_simp
              go_wp2_with (go_at_call 48; refine (bodyOf_any s L7 _).mono ?_; rintro e w1 ⟨rfl, nb, rfl⟩)
              refine wpAny_ready (rs := [1]) (by kernel_rfl) (by simp) ?_
              refine AllReady.cons rfl (fun K hK => ?_) AllReady.nil
              go_simp
              refine hK _ _ ?_; clear hK K
              refine wpAny_ready (rs := [6]) (by kernel_rfl) (by simp) ?_
              refine AllReady.cons rfl (fun K hK => ?_) AllReady.nil
              go_simp
              go_wp2_with (go_at_call 50; refine (segs_yes s g (bt s 6).toNat c _ hs (by omega) HS.out _ (by simp; omega) (HC.out.below hg (by repeat (first | refine below_drewN ?_ _ | refine Below.alloc ?_ (by simp) _ | exact Below.refl _ _)))).mono ?_; rintro e w3 ⟨rfl, hb3⟩)
              refine wpAny_done (by kernel_rfl) ?_ _
              have HB3 : Hid (Below w2.heap.size w2 w3) := Below.trans (by repeat (first | refine below_drewN ?_ _ | refine Below.alloc ?_ (by simp) _ | exact Below.refl _ _)) (hb3.mono (by simp))
              have hz3 := hb3.size
              simp at hz3
              have k0 : w3.cell? ⟨w2.heap.size, 0, none⟩ = some (.slice (some ⟨g, 0, none⟩) (bt s 6).toNat c) := (hb3.cell (p := ⟨w2.heap.size, 0, none⟩) (by simp)).trans (by simp [go_sem])
              have k1 : w3.cell? ⟨w2.heap.size, 1, none⟩ = some (.slice ad2 (bt s 7).toNat c2) := (hb3.cell (p := ⟨w2.heap.size, 1, none⟩) (by simp)).trans (by simp [go_sem])
              have k2 : w3.cell? ⟨w2.heap.size, 2, none⟩ = some (.int .i64 (two s 4)) := (hb3.cell (p := ⟨w2.heap.size, 2, none⟩) (by simp)).trans (by simp [go_sem])
              clear hb3
              have q3 : w2.heap.size < w3.heap.size := by omega
              have HMV' : Hid (MvAt w2 ad2 s (8 + bt s 6 * 8) (bt s 7).toNat) := by
                show MvAt w2 ad2 s (8 + bt s 6 * 8) (bt s 7).toNat
                rw [show (8 : Int) + bt s 6 * 8 = 8 + 8 * ((bt s 6).toNat : Int) from by omega]
                exact HMV.out
              go_wp2_with fail
              refine wp_region_any (by kernel_rfl) ?_
              (try (change wpAny _ _ _ _ _ _ _ (World.drew _)))
              refine wpAny_take (i := 1) (v := .string s) rfl (by kernel_rfl) (by kernel_rfl) (by kernel_rfl) (fun _ _ _ h => h) (Or.inl ⟨by kernel_rfl, ?_⟩) ?_
              · intro w; go_simp
              simp only [Act.put, List.setIfInBounds_toArray]
              refine wpAny_ready (rs := [0, 2]) (by kernel_rfl) (by simp) ?_
              refine AllReady.cons rfl (fun K hK => ?_) (AllReady.cons rfl (fun K hK => ?_) AllReady.nil)
              ·
                go_simp
                refine hK _ _ ?_; clear hK K
                refine wpAny_ready (rs := [2]) (by kernel_rfl) (by simp) ?_
                refine AllReady.cons rfl (fun K hK => ?_) AllReady.nil
                go_simp
                go_wp2_with (go_at_call 52; refine (movesOf_any s L6 _).mono ?_; rintro e w' ⟨rfl, rfl⟩)
                refine wpAny_ready (rs := [3]) (by kernel_rfl) (by simp) ?_
                refine AllReady.cons rfl (fun K hK => ?_) AllReady.nil
                go_simp
                go_wp2_with (go_at_call 51; refine (moves_yes s g (bt s 6).toNat c ad2 (bt s 7).toNat c2 _ _ (by omega) (by omega) (by omega) H4.out HM.out _ (by simp; omega) (HC.out.below hg (below_drewN HB3.out 1)) (HMV'.out.below (below_drewN HB3.out 1))).mono ?_; rintro e w4 ⟨rfl, hb4⟩)
                refine wpAny_done (by kernel_rfl) ?_ _
                have HB4 : Hid (Below w2.heap.size w2 w4) := (below_drewN HB3.out 1).trans (hb4.mono (by simp; omega))
                have hz4 := hb4.size
                simp at hz4
                have m0 : w4.cell? ⟨w2.heap.size, 0, none⟩ = some (.slice (some ⟨g, 0, none⟩) (bt s 6).toNat c) := (hb4.cell (p := ⟨w2.heap.size, 0, none⟩) (by simp; omega)).trans k0
                have m1 : w4.cell? ⟨w2.heap.size, 1, none⟩ = some (.slice ad2 (bt s 7).toNat c2) := (hb4.cell (p := ⟨w2.heap.size, 1, none⟩) (by simp; omega)).trans k1
                have m2 : w4.cell? ⟨w2.heap.size, 2, none⟩ = some (.int .i64 (two s 4)) := (hb4.cell (p := ⟨w2.heap.size, 2, none⟩) (by simp; omega)).trans k2
                clear hb4 k0 k1 k2
                have q4 : w2.heap.size < w4.heap.size := by omega
                go_wp2_with (first | (go_at_call 53; refine (isCode_any s g (bt s 6).toNat c _ t4 (by omega) _ (by omega) (HC.out.below hg HB4.out)).mono ?_; rintro e w5 ⟨rfl, hb5⟩) | (go_at_call_of 47 (Value.bool false); refine (demand_no _ _).mono ?_; rintro e w' ⟨rfl, rfl⟩))
                exact ⟨rfl, by rw [HV.out]; rfl, (HB2.out.trans (HB4.out.mono hz2)).trans (hb5.mono (by omega))⟩
              ·
                go_simp
                go_wp2_with (go_at_call 52; refine (movesOf_any s L6 _).mono ?_; rintro e w' ⟨rfl, rfl⟩)
                refine wpAny_ready (rs := [0]) (by kernel_rfl) (by simp) ?_
                refine AllReady.cons rfl (fun K hK => ?_) AllReady.nil
                go_simp
                refine hK _ _ ?_; clear hK K
                refine wpAny_ready (rs := [3]) (by kernel_rfl) (by simp) ?_
                refine AllReady.cons rfl (fun K hK => ?_) AllReady.nil
                go_simp
                go_wp2_with (go_at_call 51; refine (moves_yes s g (bt s 6).toNat c ad2 (bt s 7).toNat c2 _ _ (by omega) (by omega) (by omega) H4.out HM.out _ (by simp; omega) (HC.out.below hg (below_drewN HB3.out 1)) (HMV'.out.below (below_drewN HB3.out 1))).mono ?_; rintro e w4 ⟨rfl, hb4⟩)
                refine wpAny_done (by kernel_rfl) ?_ _
                have HB4 : Hid (Below w2.heap.size w2 w4) := (below_drewN HB3.out 1).trans (hb4.mono (by simp; omega))
                have hz4 := hb4.size
                simp at hz4
                have m0 : w4.cell? ⟨w2.heap.size, 0, none⟩ = some (.slice (some ⟨g, 0, none⟩) (bt s 6).toNat c) := (hb4.cell (p := ⟨w2.heap.size, 0, none⟩) (by simp; omega)).trans k0
                have m1 : w4.cell? ⟨w2.heap.size, 1, none⟩ = some (.slice ad2 (bt s 7).toNat c2) := (hb4.cell (p := ⟨w2.heap.size, 1, none⟩) (by simp; omega)).trans k1
                have m2 : w4.cell? ⟨w2.heap.size, 2, none⟩ = some (.int .i64 (two s 4)) := (hb4.cell (p := ⟨w2.heap.size, 2, none⟩) (by simp; omega)).trans k2
                clear hb4 k0 k1 k2
                have q4 : w2.heap.size < w4.heap.size := by omega
                go_wp2_with (first | (go_at_call 53; refine (isCode_any s g (bt s 6).toNat c _ t4 (by omega) _ (by omega) (HC.out.below hg HB4.out)).mono ?_; rintro e w5 ⟨rfl, hb5⟩) | (go_at_call_of 47 (Value.bool false); refine (demand_no _ _).mono ?_; rintro e w' ⟨rfl, rfl⟩))
                exact ⟨rfl, by rw [HV.out]; rfl, (HB2.out.trans (HB4.out.mono hz2)).trans (hb5.mono (by omega))⟩
end Go.Proofs.YtmendnmmiabolaaDoor
