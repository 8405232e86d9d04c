import Derived.Test.YtmendnmmiabolaaDoorA
import Derived.Deep.RegionWith
namespace Go.Proofs.YtmendnmmiabolaaDoor
open Go.RowKit

theorem magic_get (k : Nat) (h : k < (ByteArray.mk #[72, 66, 82, 49]).size) : (((ByteArray.mk #[72, 66, 82, 49])[k]'h).toNat : Int) = magicAt k := by
  match k, h with
  | 0, _ => rfl
  | 1, _ => rfl
  | 2, _ => rfl
  | 3, _ => rfl

theorem bt_nat (s : ByteArray) : ∀ (i : Nat) (h : i < s.size), ((s[i]'h).toNat : Int) = bt s i := fun i h => bt_of s i h

theorem magic_next (s : ByteArray) (k : Nat) (h4 : k < 4) (hl : (k : Int) < (s.size : Int)) (he : bt s k = magicAt k) : magicBad s (4 - k) k = magicBad s (4 - (k + 1)) ((k : Int) + 1) := by
  rw [show 4 - k = (4 - (k + 1)) + 1 from by omega, magicBad, if_pos ⟨hl, he⟩]
theorem magic_stop (s : ByteArray) (k : Nat) (h4 : k < 4) (h : ¬ ((k : Int) < (s.size : Int) ∧ bt s k = magicAt k)) : magicBad s (4 - k) k = some (k : Int) := by
  rw [show 4 - k = (4 - (k + 1)) + 1 from by omega, magicBad, if_neg h]
theorem head_magic (s : ByteArray) (x : Int) (h : magicBad s 4 0 = some x) : headBad s = some x := by unfold headBad; rw [h]
theorem head_else (s : ByteArray) (h : magicBad s 4 0 = .none) : headBad s = if (s.size : Int) < 8 then some (s.size : Int) else if bt s 6 < 1 ∨ 4 < bt s 6 then some 6 else if 4 < bt s 7 then some 7 else .none := by unfold headBad; rw [h]

set_option maxRecDepth 100000 in
set_option maxHeartbeats 1000000 in
theorem head_any (s : ByteArray) (hs : s.size ≤ 300) (w : World) :
    Calls Tryd.prog 46 #[.string s] w fun e w' => e = outc (headBad s) (.tuple #[]) ∧ ∃ n, w' = w.drewN n := by
  have hbt := bt_nat s
  have hmg := magic_get
  have hms : (ByteArray.mk #[72, 66, 82, 49]).size = 4 := rfl
  go_enter Tryd.func46, Tryd.ntmps46
  go_wp2
  go_loopw [5] (fun i wr => ∃ k : Nat, k ≤ 4 ∧ i = .int .i64 k ∧ magicBad s 4 0 = magicBad s (4 - k) k ∧ ∃ n, wr = w.drewN n) (fun i _ => 4 - (intOf i).toNat)
  case atStart => exact ⟨0, by omega, rfl, rfl, 0, rfl⟩
  case round =>
    obtain ⟨k, hk, rfl, hm, hn⟩ := hrel
    have Hn : Hid (∃ n, wr = w.drewN n) := hn
    clear hn
    have Hm : Hid (magicBad s 4 0 = magicBad s (4 - k) k) := hm
    clear hm
    by_cases h4 : k < 4
    · have h5 : (k : Int) < 4 := by omega
      by_cases hl : (k : Int) < (s.size : Int)
      · by_cases he : bt s k = magicAt k
        · have HM := Hm.out.trans (magic_next s k h4 hl he)
          have HM' : Hid (magicBad s 4 0 = magicBad s (4 - (k + 1)) ((k : Int) + 1)) := HM
          clear HM
          have he2 : (bt s k == magicAt k) = true := by simpa using he
          clear he
          go_wp2_with fail
          refine wp_region_any (by kernel_rfl) ?_
          (try (change wpAny _ _ _ _ _ _ _ (World.drew _)))
          refine wpAny_take (i := 0) (v := .int .i64 k) rfl (by kernel_rfl) (by kernel_rfl) (by kernel_rfl) (fun _ _ _ h => h) (Or.inl ⟨by kernel_rfl, ?_⟩) ?_
          · intro w; go_simp <;> omega
          simp only [Act.put, List.setIfInBounds_toArray]
          refine wpAny_take (i := 1) (v := .string s) rfl (by kernel_rfl) (by kernel_rfl) (by kernel_rfl) (fun _ _ _ h => h) (Or.inl ⟨by kernel_rfl, ?_⟩) ?_
          · intro w; go_simp <;> omega
          simp only [Act.put]
          refine wpAny_take (i := 2) (v := .int .i64 s.size) rfl (by kernel_rfl) (by kernel_rfl) (by kernel_rfl) (fun _ _ _ h => h) (Or.inl ⟨by kernel_rfl, ?_⟩) ?_
          · intro w; go_simp <;> omega
          simp only [Act.put]
          refine wpAny_take (i := 3) (v := .bool true) rfl (by kernel_rfl) (by kernel_rfl) (by kernel_rfl) (fun _ _ _ h => h) (Or.inl ⟨by kernel_rfl, ?_⟩) ?_
          · intro w; go_simp <;> omega
          simp only [Act.put]
          refine wpAny_take (i := 4) (v := .bool true) rfl (by kernel_rfl) (by kernel_rfl) (by kernel_rfl) (fun _ _ _ h => h) (Or.inl ⟨by kernel_rfl, ?_⟩) ?_
          · intro w; go_simp <;> omega
          simp only [Act.put]
          refine wpAny_take (i := 5) (v := .string s) rfl (by kernel_rfl) (by kernel_rfl) (by kernel_rfl) (fun _ _ _ h => h) (Or.inl ⟨by kernel_rfl, ?_⟩) ?_
          · intro w; go_simp <;> omega
          simp only [Act.put]
          refine wpAny_take (i := 6) (v := .int .i64 k) rfl (by kernel_rfl) (by kernel_rfl) (by kernel_rfl) (fun _ _ _ h => h) (Or.inl ⟨by kernel_rfl, ?_⟩) ?_
          · intro w; go_simp <;> omega
          simp only [Act.put]
          refine wpAny_take (i := 7) (v := .int .u8 (bt s k)) rfl (by kernel_rfl) (by kernel_rfl) (by kernel_rfl) (fun _ _ _ h => h) (Or.inl ⟨by kernel_rfl, ?_⟩) ?_
          · intro w; go_simp <;> omega
          simp only [Act.put]
          refine wpAny_take (i := 8) (v := .int .i64 k) rfl (by kernel_rfl) (by kernel_rfl) (by kernel_rfl) (fun _ _ _ h => h) (Or.inl ⟨by kernel_rfl, ?_⟩) ?_
          · intro w; go_simp <;> omega
          simp only [Act.put]
          refine wpAny_take (i := 9) (v := .int .u8 (magicAt k)) rfl (by kernel_rfl) (by kernel_rfl) (by kernel_rfl) (fun _ _ _ h => h) (Or.inl ⟨by kernel_rfl, ?_⟩) ?_
          · intro w; go_simp <;> omega
          simp only [Act.put]
          refine wpAny_take (i := 10) (v := .bool true) rfl (by kernel_rfl) (by kernel_rfl) (by kernel_rfl) (fun _ _ _ h => h) (Or.inl ⟨by kernel_rfl, ?_⟩) ?_
          · intro w; go_simp <;> omega
          simp only [Act.put]
          refine wpAny_take (i := 11) (v := .bool true) rfl (by kernel_rfl) (by kernel_rfl) (by kernel_rfl) (fun _ _ _ h => h) (Or.inl ⟨by kernel_rfl, ?_⟩) ?_
          · intro w; go_simp <;> omega
          simp only [Act.put]
          refine wpAny_take (i := 12) (v := .int .i64 k) rfl (by kernel_rfl) (by kernel_rfl) (by kernel_rfl) (fun _ _ _ h => h) (Or.inl ⟨by kernel_rfl, ?_⟩) ?_
          · intro w; go_simp <;> omega
          simp only [Act.put]
          refine wpAny_ready (rs := [13]) (by kernel_rfl) (by simp) ?_
          refine AllReady.cons rfl (fun K hK => ?_) AllReady.nil
          go_simp
          go_wp2_with (go_at_call 47; refine (demand_yes _ _).mono ?_; rintro e w' ⟨rfl, rfl⟩)
          refine wpAny_done (by kernel_rfl) ?_ _
          go_wp2
          go_roundw
          case rel =>
            obtain ⟨n, hn⟩ := Hn.out
            exact ⟨k + 1, by omega, by go_num, HM'.out, n + 1, by rw [hn]; rfl⟩
          case measure => simp [intOf]; omega
        · have HM := head_magic s k (Hm.out.trans (magic_stop s k h4 (fun h => he h.2)))
          have HM' : Hid (headBad s = some (k : Int)) := HM
          clear HM
          have he2 : (bt s k == magicAt k) = false := by simpa using he
          clear he
          go_wp2_with fail
          refine wp_region_any (by kernel_rfl) ?_
          (try (change wpAny _ _ _ _ _ _ _ (World.drew _)))
          refine wpAny_take (i := 0) (v := .int .i64 k) rfl (by kernel_rfl) (by kernel_rfl) (by kernel_rfl) (fun _ _ _ h => h) (Or.inl ⟨by kernel_rfl, ?_⟩) ?_
          · intro w; go_simp <;> omega
          simp only [Act.put, List.setIfInBounds_toArray]
          refine wpAny_take (i := 1) (v := .string s) rfl (by kernel_rfl) (by kernel_rfl) (by kernel_rfl) (fun _ _ _ h => h) (Or.inl ⟨by kernel_rfl, ?_⟩) ?_
          · intro w; go_simp <;> omega
          simp only [Act.put]
          refine wpAny_take (i := 2) (v := .int .i64 s.size) rfl (by kernel_rfl) (by kernel_rfl) (by kernel_rfl) (fun _ _ _ h => h) (Or.inl ⟨by kernel_rfl, ?_⟩) ?_
          · intro w; go_simp <;> omega
          simp only [Act.put]
          refine wpAny_take (i := 3) (v := .bool true) rfl (by kernel_rfl) (by kernel_rfl) (by kernel_rfl) (fun _ _ _ h => h) (Or.inl ⟨by kernel_rfl, ?_⟩) ?_
          · intro w; go_simp <;> omega
          simp only [Act.put]
          refine wpAny_take (i := 4) (v := .bool true) rfl (by kernel_rfl) (by kernel_rfl) (by kernel_rfl) (fun _ _ _ h => h) (Or.inl ⟨by kernel_rfl, ?_⟩) ?_
          · intro w; go_simp <;> omega
          simp only [Act.put]
          refine wpAny_take (i := 5) (v := .string s) rfl (by kernel_rfl) (by kernel_rfl) (by kernel_rfl) (fun _ _ _ h => h) (Or.inl ⟨by kernel_rfl, ?_⟩) ?_
          · intro w; go_simp <;> omega
          simp only [Act.put]
          refine wpAny_take (i := 6) (v := .int .i64 k) rfl (by kernel_rfl) (by kernel_rfl) (by kernel_rfl) (fun _ _ _ h => h) (Or.inl ⟨by kernel_rfl, ?_⟩) ?_
          · intro w; go_simp <;> omega
          simp only [Act.put]
          refine wpAny_take (i := 7) (v := .int .u8 (bt s k)) rfl (by kernel_rfl) (by kernel_rfl) (by kernel_rfl) (fun _ _ _ h => h) (Or.inl ⟨by kernel_rfl, ?_⟩) ?_
          · intro w; go_simp <;> omega
          simp only [Act.put]
          refine wpAny_take (i := 8) (v := .int .i64 k) rfl (by kernel_rfl) (by kernel_rfl) (by kernel_rfl) (fun _ _ _ h => h) (Or.inl ⟨by kernel_rfl, ?_⟩) ?_
          · intro w; go_simp <;> omega
          simp only [Act.put]
          refine wpAny_take (i := 9) (v := .int .u8 (magicAt k)) rfl (by kernel_rfl) (by kernel_rfl) (by kernel_rfl) (fun _ _ _ h => h) (Or.inl ⟨by kernel_rfl, ?_⟩) ?_
          · intro w; go_simp <;> omega
          simp only [Act.put]
          refine wpAny_take (i := 10) (v := .bool false) rfl (by kernel_rfl) (by kernel_rfl) (by kernel_rfl) (fun _ _ _ h => h) (Or.inl ⟨by kernel_rfl, ?_⟩) ?_
          · intro w; go_simp <;> omega
          simp only [Act.put]
          refine wpAny_take (i := 11) (v := .bool false) rfl (by kernel_rfl) (by kernel_rfl) (by kernel_rfl) (fun _ _ _ h => h) (Or.inl ⟨by kernel_rfl, ?_⟩) ?_
          · intro w; go_simp <;> omega
          simp only [Act.put]
          refine wpAny_take (i := 12) (v := .int .i64 k) rfl (by kernel_rfl) (by kernel_rfl) (by kernel_rfl) (fun _ _ _ h => h) (Or.inl ⟨by kernel_rfl, ?_⟩) ?_
          · intro w; go_simp <;> omega
          simp only [Act.put]
          refine wpAny_ready (rs := [13]) (by kernel_rfl) (by simp) ?_
          refine AllReady.cons rfl (fun K hK => ?_) AllReady.nil
          go_simp
          go_wp2_with (go_at_call 47; refine (demand_no _ _).mono ?_; rintro e w' ⟨rfl, rfl⟩)
          obtain ⟨n, hn⟩ := Hn.out
          exact ⟨rfl, by rw [HM'.out]; rfl, n + 1, by rw [hn]; rfl⟩
      · have HM := head_magic s k (Hm.out.trans (magic_stop s k h4 (fun h => hl h.1)))
        have HM' : Hid (headBad s = some (k : Int)) := HM
        clear HM
        have hd : decide ((k : Int) < (s.size : Int)) = false := by simpa using hl
        go_wp2_with fail
        refine wp_region_any (by kernel_rfl) ?_
        (try (change wpAny _ _ _ _ _ _ _ (World.drew _)))
        refine wpAny_take (i := 0) (v := .int .i64 k) rfl (by kernel_rfl) (by kernel_rfl) (by kernel_rfl) (fun _ _ _ h => h) (Or.inl ⟨by kernel_rfl, ?_⟩) ?_
        · intro w; go_simp <;> omega
        simp only [Act.put, List.setIfInBounds_toArray]
        refine wpAny_take (i := 1) (v := .string s) rfl (by kernel_rfl) (by kernel_rfl) (by kernel_rfl) (fun _ _ _ h => h) (Or.inl ⟨by kernel_rfl, ?_⟩) ?_
        · intro w; go_simp <;> omega
        simp only [Act.put]
        refine wpAny_take (i := 2) (v := .int .i64 s.size) rfl (by kernel_rfl) (by kernel_rfl) (by kernel_rfl) (fun _ _ _ h => h) (Or.inl ⟨by kernel_rfl, ?_⟩) ?_
        · intro w; go_simp <;> omega
        simp only [Act.put]
        refine wpAny_take (i := 3) (v := .bool false) rfl (by kernel_rfl) (by kernel_rfl) (by kernel_rfl) (fun _ _ _ h => h) (Or.inl ⟨by kernel_rfl, ?_⟩) ?_
        · intro w; go_simp <;> omega
        simp only [Act.put]
        refine wpAny_take (i := 4) (v := .bool false) rfl (by kernel_rfl) (by kernel_rfl) (by kernel_rfl) (fun _ _ _ h => h) (Or.inl ⟨by kernel_rfl, ?_⟩) ?_
        · intro w; go_simp <;> omega
        simp only [Act.put]
        refine wpAny_take (i := 5) (v := undef) rfl (by kernel_rfl) (by kernel_rfl) (by kernel_rfl) (fun _ _ _ h => h) (Or.inr ⟨by kernel_rfl, rfl⟩) ?_
        simp only [Act.put]
        refine wpAny_take (i := 6) (v := undef) rfl (by kernel_rfl) (by kernel_rfl) (by kernel_rfl) (fun _ _ _ h => h) (Or.inr ⟨by kernel_rfl, rfl⟩) ?_
        simp only [Act.put]
        refine wpAny_take (i := 7) (v := undef) rfl (by kernel_rfl) (by kernel_rfl) (by kernel_rfl) (fun _ _ _ h => h) (Or.inr ⟨by kernel_rfl, rfl⟩) ?_
        simp only [Act.put]
        refine wpAny_take (i := 8) (v := undef) rfl (by kernel_rfl) (by kernel_rfl) (by kernel_rfl) (fun _ _ _ h => h) (Or.inr ⟨by kernel_rfl, rfl⟩) ?_
        simp only [Act.put]
        refine wpAny_take (i := 9) (v := undef) rfl (by kernel_rfl) (by kernel_rfl) (by kernel_rfl) (fun _ _ _ h => h) (Or.inr ⟨by kernel_rfl, rfl⟩) ?_
        simp only [Act.put]
        refine wpAny_take (i := 10) (v := undef) rfl (by kernel_rfl) (by kernel_rfl) (by kernel_rfl) (fun _ _ _ h => h) (Or.inr ⟨by kernel_rfl, rfl⟩) ?_
        simp only [Act.put]
        refine wpAny_take (i := 11) (v := .bool false) rfl (by kernel_rfl) (by kernel_rfl) (by kernel_rfl) (fun _ _ _ h => h) (Or.inl ⟨by kernel_rfl, ?_⟩) ?_
        · intro w; go_simp <;> omega
        simp only [Act.put]
        refine wpAny_take (i := 12) (v := .int .i64 k) rfl (by kernel_rfl) (by kernel_rfl) (by kernel_rfl) (fun _ _ _ h => h) (Or.inl ⟨by kernel_rfl, ?_⟩) ?_
        · intro w; go_simp <;> omega
        simp only [Act.put]
        refine wpAny_ready (rs := [13]) (by kernel_rfl) (by simp) ?_
        refine AllReady.cons rfl (fun K hK => ?_) AllReady.nil
        go_simp
        go_wp2_with (go_at_call 47; refine (demand_no _ _).mono ?_; rintro e w' ⟨rfl, rfl⟩)
        obtain ⟨n, hn⟩ := Hn.out
        exact ⟨rfl, by rw [HM'.out]; rfl, n + 1, by rw [hn]; rfl⟩
    · have hk4 : k = 4 := by omega
      subst hk4
      have HM' : Hid (headBad s = if (s.size : Int) < 8 then some (s.size : Int) else if bt s 6 < 1 ∨ 4 < bt s 6 then some 6 else if 4 < bt s 7 then some 7 else .none) := head_else s Hm.out
      obtain ⟨n, hn⟩ := Hn.out
      have HN : Hid (wr = w.drewN n) := hn
      clear hn Hn Hm
      by_cases a8 : (s.size : Int) < 8
      · have hd : decide ((8 : Int) ≤ (s.size : Int)) = false := by simp; omega
        have hB : Hid (headBad s = some (s.size : Int)) := by show headBad s = _; rw [HM'.out, if_pos a8]
        go_wp2_with (first | (go_at_call_of 47 (Value.bool true); refine (demand_yes _ _).mono ?_; rintro e w' ⟨rfl, rfl⟩) | (go_at_call_of 47 (Value.bool false); refine (demand_no _ _).mono ?_; rintro e w' ⟨rfl, rfl⟩))
        exact ⟨rfl, by rw [hB.out]; rfl, n, HN.out⟩
      have l6 : (6 : Int) < (s.size : Int) := by omega
      have l7 : (7 : Int) < (s.size : Int) := by omega
      have l8 : (8 : Int) ≤ (s.size : Int) := by omega
      have m6 : 6 < s.size := by omega
      have m7 : 7 < s.size := by omega
      have g6 : ((s[6]'m6).toNat : Int) = bt s 6 := hbt 6 m6
      have g7 : ((s[7]'m7).toNat : Int) = bt s 7 := hbt 7 m7
      have b6 := bt_bd s 6
      have b7 := bt_bd s 7
      by_cases c1 : 1 ≤ bt s 6
      rotate_left
      · have hB : Hid (headBad s = some 6) := by show headBad s = _; rw [HM'.out, if_neg a8, if_pos (by omega)]
        have hd : decide (1 ≤ bt s 6) = false := by simpa using c1
        go_wp2_with (first | (go_at_call_of 47 (Value.bool true); refine (demand_yes _ _).mono ?_; rintro e w' ⟨rfl, rfl⟩) | (go_at_call_of 47 (Value.bool false); refine (demand_no _ _).mono ?_; rintro e w' ⟨rfl, rfl⟩))
        refine wp_region_any (by kernel_rfl) ?_
        (try (change wpAny _ _ _ _ _ _ _ (World.drew _)))
        refine wpAny_take (i := 0) (v := .string s) rfl (by kernel_rfl) (by kernel_rfl) (by kernel_rfl) (fun _ _ _ h => h) (Or.inl ⟨by kernel_rfl, ?_⟩) ?_
        · intro w; go_simp <;> omega
        simp only [Act.put, List.setIfInBounds_toArray]
        refine wpAny_take (i := 1) (v := .int .u8 (bt s 6)) rfl (by kernel_rfl) (by kernel_rfl) (by kernel_rfl) (fun _ _ _ h => h) (Or.inl ⟨by kernel_rfl, ?_⟩) ?_
        · intro w; go_simp <;> omega
        simp only [Act.put]
        refine wpAny_take (i := 2) (v := .string s) rfl (by kernel_rfl) (by kernel_rfl) (by kernel_rfl) (fun _ _ _ h => h) (Or.inl ⟨by kernel_rfl, ?_⟩) ?_
        · intro w; go_simp <;> omega
        simp only [Act.put]
        refine wpAny_take (i := 3) (v := .int .u8 (bt s 7)) rfl (by kernel_rfl) (by kernel_rfl) (by kernel_rfl) (fun _ _ _ h => h) (Or.inl ⟨by kernel_rfl, ?_⟩) ?_
        · intro w; go_simp <;> omega
        simp only [Act.put]
        refine wpAny_take (i := 4) (v := .int .u8 (bt s 6)) rfl (by kernel_rfl) (by kernel_rfl) (by kernel_rfl) (fun _ _ _ h => h) (Or.inl ⟨by kernel_rfl, ?_⟩) ?_
        · intro w; go_simp <;> omega
        simp only [Act.put]
        refine wpAny_take (i := 5) (v := .int .u8 (bt s 7)) rfl (by kernel_rfl) (by kernel_rfl) (by kernel_rfl) (fun _ _ _ h => h) (Or.inl ⟨by kernel_rfl, ?_⟩) ?_
        · intro w; go_simp <;> omega
        simp only [Act.put]
        refine wpAny_done (by kernel_rfl) ?_ _
        go_wp2_with (first | (go_at_call_of 47 (Value.bool true); refine (demand_yes _ _).mono ?_; rintro e w' ⟨rfl, rfl⟩) | (go_at_call_of 47 (Value.bool false); refine (demand_no _ _).mono ?_; rintro e w' ⟨rfl, rfl⟩))
        exact ⟨rfl, by rw [hB.out]; rfl, n + 1, by rw [HN.out]; rfl⟩
      by_cases c2 : bt s 6 ≤ 4
      rotate_left
      · have hB : Hid (headBad s = some 6) := by show headBad s = _; rw [HM'.out, if_neg a8, if_pos (by omega)]
        have hd : decide (bt s 6 ≤ 4) = false := by simpa using c2
        go_wp2_with (first | (go_at_call_of 47 (Value.bool true); refine (demand_yes _ _).mono ?_; rintro e w' ⟨rfl, rfl⟩) | (go_at_call_of 47 (Value.bool false); refine (demand_no _ _).mono ?_; rintro e w' ⟨rfl, rfl⟩))
        refine wp_region_any (by kernel_rfl) ?_
        (try (change wpAny _ _ _ _ _ _ _ (World.drew _)))
        refine wpAny_take (i := 0) (v := .string s) rfl (by kernel_rfl) (by kernel_rfl) (by kernel_rfl) (fun _ _ _ h => h) (Or.inl ⟨by kernel_rfl, ?_⟩) ?_
        · intro w; go_simp <;> omega
        simp only [Act.put, List.setIfInBounds_toArray]
        refine wpAny_take (i := 1) (v := .int .u8 (bt s 6)) rfl (by kernel_rfl) (by kernel_rfl) (by kernel_rfl) (fun _ _ _ h => h) (Or.inl ⟨by kernel_rfl, ?_⟩) ?_
        · intro w; go_simp <;> omega
        simp only [Act.put]
        refine wpAny_take (i := 2) (v := .string s) rfl (by kernel_rfl) (by kernel_rfl) (by kernel_rfl) (fun _ _ _ h => h) (Or.inl ⟨by kernel_rfl, ?_⟩) ?_
        · intro w; go_simp <;> omega
        simp only [Act.put]
        refine wpAny_take (i := 3) (v := .int .u8 (bt s 7)) rfl (by kernel_rfl) (by kernel_rfl) (by kernel_rfl) (fun _ _ _ h => h) (Or.inl ⟨by kernel_rfl, ?_⟩) ?_
        · intro w; go_simp <;> omega
        simp only [Act.put]
        refine wpAny_take (i := 4) (v := .int .u8 (bt s 6)) rfl (by kernel_rfl) (by kernel_rfl) (by kernel_rfl) (fun _ _ _ h => h) (Or.inl ⟨by kernel_rfl, ?_⟩) ?_
        · intro w; go_simp <;> omega
        simp only [Act.put]
        refine wpAny_take (i := 5) (v := .int .u8 (bt s 7)) rfl (by kernel_rfl) (by kernel_rfl) (by kernel_rfl) (fun _ _ _ h => h) (Or.inl ⟨by kernel_rfl, ?_⟩) ?_
        · intro w; go_simp <;> omega
        simp only [Act.put]
        refine wpAny_done (by kernel_rfl) ?_ _
        go_wp2_with (first | (go_at_call_of 47 (Value.bool true); refine (demand_yes _ _).mono ?_; rintro e w' ⟨rfl, rfl⟩) | (go_at_call_of 47 (Value.bool false); refine (demand_no _ _).mono ?_; rintro e w' ⟨rfl, rfl⟩))
        exact ⟨rfl, by rw [hB.out]; rfl, n + 1, by rw [HN.out]; rfl⟩
      by_cases c3 : bt s 7 ≤ 4
      rotate_left
      · have hB : Hid (headBad s = some 7) := by show headBad s = _; rw [HM'.out, if_neg a8, if_neg (by omega), if_pos (by omega)]
        have hd : decide (bt s 7 ≤ 4) = false := by simpa using c3
        go_wp2_with (first | (go_at_call_of 47 (Value.bool true); refine (demand_yes _ _).mono ?_; rintro e w' ⟨rfl, rfl⟩) | (go_at_call_of 47 (Value.bool false); refine (demand_no _ _).mono ?_; rintro e w' ⟨rfl, rfl⟩))
        refine wp_region_any (by kernel_rfl) ?_
        (try (change wpAny _ _ _ _ _ _ _ (World.drew _)))
        refine wpAny_take (i := 0) (v := .string s) rfl (by kernel_rfl) (by kernel_rfl) (by kernel_rfl) (fun _ _ _ h => h) (Or.inl ⟨by kernel_rfl, ?_⟩) ?_
        · intro w; go_simp <;> omega
        simp only [Act.put, List.setIfInBounds_toArray]
        refine wpAny_take (i := 1) (v := .int .u8 (bt s 6)) rfl (by kernel_rfl) (by kernel_rfl) (by kernel_rfl) (fun _ _ _ h => h) (Or.inl ⟨by kernel_rfl, ?_⟩) ?_
        · intro w; go_simp <;> omega
        simp only [Act.put]
        refine wpAny_take (i := 2) (v := .string s) rfl (by kernel_rfl) (by kernel_rfl) (by kernel_rfl) (fun _ _ _ h => h) (Or.inl ⟨by kernel_rfl, ?_⟩) ?_
        · intro w; go_simp <;> omega
        simp only [Act.put]
        refine wpAny_take (i := 3) (v := .int .u8 (bt s 7)) rfl (by kernel_rfl) (by kernel_rfl) (by kernel_rfl) (fun _ _ _ h => h) (Or.inl ⟨by kernel_rfl, ?_⟩) ?_
        · intro w; go_simp <;> omega
        simp only [Act.put]
        refine wpAny_take (i := 4) (v := .int .u8 (bt s 6)) rfl (by kernel_rfl) (by kernel_rfl) (by kernel_rfl) (fun _ _ _ h => h) (Or.inl ⟨by kernel_rfl, ?_⟩) ?_
        · intro w; go_simp <;> omega
        simp only [Act.put]
        refine wpAny_take (i := 5) (v := .int .u8 (bt s 7)) rfl (by kernel_rfl) (by kernel_rfl) (by kernel_rfl) (fun _ _ _ h => h) (Or.inl ⟨by kernel_rfl, ?_⟩) ?_
        · intro w; go_simp <;> omega
        simp only [Act.put]
        refine wpAny_done (by kernel_rfl) ?_ _
        go_wp2_with (first | (go_at_call_of 47 (Value.bool true); refine (demand_yes _ _).mono ?_; rintro e w' ⟨rfl, rfl⟩) | (go_at_call_of 47 (Value.bool false); refine (demand_no _ _).mono ?_; rintro e w' ⟨rfl, rfl⟩))
        exact ⟨rfl, by rw [hB.out]; rfl, n + 1, by rw [HN.out]; rfl⟩
      · have hB : Hid (headBad s = .none) := by show headBad s = _; rw [HM'.out, if_neg a8, if_neg (by omega), if_neg (by omega)]
        go_wp2_with (first | (go_at_call_of 47 (Value.bool true); refine (demand_yes _ _).mono ?_; rintro e w' ⟨rfl, rfl⟩) | (go_at_call_of 47 (Value.bool false); refine (demand_no _ _).mono ?_; rintro e w' ⟨rfl, rfl⟩))
        refine wp_region_any (by kernel_rfl) ?_
        (try (change wpAny _ _ _ _ _ _ _ (World.drew _)))
        refine wpAny_take (i := 0) (v := .string s) rfl (by kernel_rfl) (by kernel_rfl) (by kernel_rfl) (fun _ _ _ h => h) (Or.inl ⟨by kernel_rfl, ?_⟩) ?_
        · intro w; go_simp <;> omega
        simp only [Act.put, List.setIfInBounds_toArray]
        refine wpAny_take (i := 1) (v := .int .u8 (bt s 6)) rfl (by kernel_rfl) (by kernel_rfl) (by kernel_rfl) (fun _ _ _ h => h) (Or.inl ⟨by kernel_rfl, ?_⟩) ?_
        · intro w; go_simp <;> omega
        simp only [Act.put]
        refine wpAny_take (i := 2) (v := .string s) rfl (by kernel_rfl) (by kernel_rfl) (by kernel_rfl) (fun _ _ _ h => h) (Or.inl ⟨by kernel_rfl, ?_⟩) ?_
        · intro w; go_simp <;> omega
        simp only [Act.put]
        refine wpAny_take (i := 3) (v := .int .u8 (bt s 7)) rfl (by kernel_rfl) (by kernel_rfl) (by kernel_rfl) (fun _ _ _ h => h) (Or.inl ⟨by kernel_rfl, ?_⟩) ?_
        · intro w; go_simp <;> omega
        simp only [Act.put]
        refine wpAny_take (i := 4) (v := .int .u8 (bt s 6)) rfl (by kernel_rfl) (by kernel_rfl) (by kernel_rfl) (fun _ _ _ h => h) (Or.inl ⟨by kernel_rfl, ?_⟩) ?_
        · intro w; go_simp <;> omega
        simp only [Act.put]
        refine wpAny_take (i := 5) (v := .int .u8 (bt s 7)) rfl (by kernel_rfl) (by kernel_rfl) (by kernel_rfl) (fun _ _ _ h => h) (Or.inl ⟨by kernel_rfl, ?_⟩) ?_
        · intro w; go_simp <;> omega
        simp only [Act.put]
        refine wpAny_done (by kernel_rfl) ?_ _
        go_wp2_with (first | (go_at_call_of 47 (Value.bool true); refine (demand_yes _ _).mono ?_; rintro e w' ⟨rfl, rfl⟩) | (go_at_call_of 47 (Value.bool false); refine (demand_no _ _).mono ?_; rintro e w' ⟨rfl, rfl⟩))
        go_end0
        exact ⟨by rw [hB.out]; rfl, n + 1, by rw [HN.out]; rfl⟩
end Go.Proofs.YtmendnmmiabolaaDoor
