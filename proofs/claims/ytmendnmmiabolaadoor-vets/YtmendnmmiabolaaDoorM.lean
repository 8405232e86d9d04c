import Derived.Test.YtmendnmmiabolaaDoorP
namespace Go.Proofs.YtmendnmmiabolaaDoor
open Go.RowKit

set_option maxRecDepth 100000 in
set_option maxHeartbeats 4000000 in
theorem segs_any (s : ByteArray) (g n cap : Nat) (fin : Int) (hs : s.size ≤ 300) (hn : n ≤ 4) (w : World) (hg : g < w.heap.size) (hc : SgAt w g s n) :
    Calls Tryd.prog 50 #[.slice (some ⟨g, 0, none⟩) n cap, .int .i64 fin, .int .i64 (s.size : Int)] w fun e w' => e = outc (segsBad s fin n 8 0) (.tuple #[]) ∧ Below w.heap.size w w' := by
  go_enter Tryd.func50, Tryd.ntmps50
  go_wp2
  go_loopw [6, 12] (fun l i wr => ∃ k : Nat, k ≤ n ∧ i = .int .i64 k ∧ l = .int .i64 (lastEnd s k) ∧ segsBad s fin n 8 0 = segsBad s fin (n - k) (8 + 8 * (k : Int)) (lastEnd s k) ∧ Below w.heap.size w wr) (fun _ i _ => n - (intOf i).toNat)
  case atStart => exact ⟨0, by omega, rfl, rfl, rfl, Below.refl _ _⟩
  case round =>
    obtain ⟨k, hk, rfl, rfl, hm, hbel⟩ := hrel
    have HM : Hid (segsBad s fin n 8 0 = segsBad s fin (n - k) (8 + 8 * (k : Int)) (lastEnd s k)) := hm
    clear hm
    by_cases hlt : k < n
    · have HC : Hid (SgAt w g s n) := hc
      obtain ⟨z0, z1, z2, z3, z4, z5⟩ := hc.below hg hbel k hlt
      clear hc
      have hz := hbel.size
      have hl : (k : Int) < (n : Int) := by omega
      obtain ⟨p, hp⟩ : ∃ p, p = 8 + 8 * (k : Int) := ⟨_, rfl⟩
      rw [← hp] at z0 z1 z2 z3 z4 z5 HM
      have hat : 8 + (k : Int) * 8 = p := by omega
      have p0 : 8 ≤ p ∧ p ≤ 40 := by omega
      have HP : Hid (p = 8 + 8 * (k : Int)) := hp
      clear hp
      obtain ⟨last, hlast⟩ : ∃ l, l = lastEnd s k := ⟨_, rfl⟩
      rw [← hlast] at HM ⊢
      have HL : Hid (last = lastEnd s k) := hlast
      clear hlast
      have b0 := bt_bd s p
      have b1 := bt_bd s (p + 1)
      have b2 := bt_bd s (p + 2)
      have b4 := two_bd s (p + 4)
      have b6 := two_bd s (p + 6)
      rcases seg_cases s p last fin with ⟨c1, hB⟩ | ⟨c1, c2, hB⟩ | ⟨c1, c2, ⟨c3, hB⟩ | ⟨c3, c4, hB⟩ | ⟨c3, c4, c5, hB⟩ | ⟨c3, c4, c5, ⟨c6, hB⟩ | ⟨c6, c7, hB⟩ | ⟨c6, c7, ⟨c8, hB⟩ | ⟨c8, ⟨c9, hB⟩ | ⟨c9, c10, hB⟩ | ⟨c9, c10, ⟨c11, hB⟩ | ⟨c11, c12, hB⟩ | ⟨c11, c12, hB⟩⟩⟩⟩⟩⟩
      · have HF : Hid (segsBad s fin n 8 0 = some p) := by
          show segsBad s fin n 8 0 = _
          rw [HM.out, show n - k = (n - (k + 1)) + 1 from by omega]; exact segs_stop _ _ _ _ _ _ hB
        clear hB
        go_wp2_with (first | (go_at_call_of 47 (Value.bool true); refine (demand_yes _ _).mono ?_; rintro e w' ⟨rfl, rfl⟩) | (go_at_call_of 47 (Value.bool false); refine (demand_no _ _).mono ?_; rintro e w' ⟨rfl, rfl⟩) | (go_at_call 64; refine (end_any _ _ _ _ _ _ _ (by omega) (by omega)).mono ?_; rintro e w1 ⟨rfl, hb⟩; obtain ⟨hcc, hff⟩ := bcell hb))
        exact ⟨rfl, by rw [HF.out]; rfl, hbel.alloc hz _⟩
      · have HF : Hid (segsBad s fin n 8 0 = some p) := by
          show segsBad s fin n 8 0 = _
          rw [HM.out, show n - k = (n - (k + 1)) + 1 from by omega]; exact segs_stop _ _ _ _ _ _ hB
        clear hB
        go_wp2_with (first | (go_at_call_of 47 (Value.bool true); refine (demand_yes _ _).mono ?_; rintro e w' ⟨rfl, rfl⟩) | (go_at_call_of 47 (Value.bool false); refine (demand_no _ _).mono ?_; rintro e w' ⟨rfl, rfl⟩) | (go_at_call 64; refine (end_any _ _ _ _ _ _ _ (by omega) (by omega)).mono ?_; rintro e w1 ⟨rfl, hb⟩; obtain ⟨hcc, hff⟩ := bcell hb))
        exact ⟨rfl, by rw [HF.out]; rfl, hbel.alloc hz _⟩
      · have HF : Hid (segsBad s fin n 8 0 = some (p + 1)) := by
          show segsBad s fin n 8 0 = _
          rw [HM.out, show n - k = (n - (k + 1)) + 1 from by omega]; exact segs_stop _ _ _ _ _ _ hB
        clear hB
        go_wp2_with (first | (go_at_call_of 47 (Value.bool true); refine (demand_yes _ _).mono ?_; rintro e w' ⟨rfl, rfl⟩) | (go_at_call_of 47 (Value.bool false); refine (demand_no _ _).mono ?_; rintro e w' ⟨rfl, rfl⟩) | (go_at_call 64; refine (end_any _ _ _ _ _ _ _ (by omega) (by omega)).mono ?_; rintro e w1 ⟨rfl, hb⟩; obtain ⟨hcc, hff⟩ := bcell hb))
        exact ⟨rfl, by rw [HF.out]; rfl, hbel.alloc hz _⟩
      · have HF : Hid (segsBad s fin n 8 0 = some (p + 1)) := by
          show segsBad s fin n 8 0 = _
          rw [HM.out, show n - k = (n - (k + 1)) + 1 from by omega]; exact segs_stop _ _ _ _ _ _ hB
        clear hB
        go_wp2_with (first | (go_at_call_of 47 (Value.bool true); refine (demand_yes _ _).mono ?_; rintro e w' ⟨rfl, rfl⟩) | (go_at_call_of 47 (Value.bool false); refine (demand_no _ _).mono ?_; rintro e w' ⟨rfl, rfl⟩) | (go_at_call 64; refine (end_any _ _ _ _ _ _ _ (by omega) (by omega)).mono ?_; rintro e w1 ⟨rfl, hb⟩; obtain ⟨hcc, hff⟩ := bcell hb))
        exact ⟨rfl, by rw [HF.out]; rfl, hbel.alloc hz _⟩
      · have HF : Hid (segsBad s fin n 8 0 = some (p + 1)) := by
          show segsBad s fin n 8 0 = _
          rw [HM.out, show n - k = (n - (k + 1)) + 1 from by omega]; exact segs_stop _ _ _ _ _ _ hB
        clear hB
        have d5 : decide (bt s p + bt s (p + 1) ≤ 32) = false := by simpa using c5
        go_wp2_with (first | (go_at_call_of 47 (Value.bool true); refine (demand_yes _ _).mono ?_; rintro e w' ⟨rfl, rfl⟩) | (go_at_call_of 47 (Value.bool false); refine (demand_no _ _).mono ?_; rintro e w' ⟨rfl, rfl⟩) | (go_at_call 64; refine (end_any _ _ _ _ _ _ _ (by omega) (by omega)).mono ?_; rintro e w1 ⟨rfl, hb⟩; obtain ⟨hcc, hff⟩ := bcell hb))
        exact ⟨rfl, by rw [HF.out]; rfl, (hbel.alloc hz _).trans (hb.mono (by simp; omega))⟩
      · have HF : Hid (segsBad s fin n 8 0 = some (p + 2)) := by
          show segsBad s fin n 8 0 = _
          rw [HM.out, show n - k = (n - (k + 1)) + 1 from by omega]; exact segs_stop _ _ _ _ _ _ hB
        clear hB
        go_wp2_with (first | (go_at_call_of 47 (Value.bool true); refine (demand_yes _ _).mono ?_; rintro e w' ⟨rfl, rfl⟩) | (go_at_call_of 47 (Value.bool false); refine (demand_no _ _).mono ?_; rintro e w' ⟨rfl, rfl⟩) | (go_at_call 64; refine (end_any _ _ _ _ _ _ _ (by omega) (by omega)).mono ?_; rintro e w1 ⟨rfl, hb⟩; obtain ⟨hcc, hff⟩ := bcell hb))
        exact ⟨rfl, by rw [HF.out]; rfl, (hbel.alloc hz _).trans (hb.mono (by simp; omega))⟩
      · have HF : Hid (segsBad s fin n 8 0 = some (p + 2)) := by
          show segsBad s fin n 8 0 = _
          rw [HM.out, show n - k = (n - (k + 1)) + 1 from by omega]; exact segs_stop _ _ _ _ _ _ hB
        clear hB
        have d7 : decide (bt s (p + 2) ≤ 4) = false := by simpa using c7
        go_wp2_with (first | (go_at_call_of 47 (Value.bool true); refine (demand_yes _ _).mono ?_; rintro e w' ⟨rfl, rfl⟩) | (go_at_call_of 47 (Value.bool false); refine (demand_no _ _).mono ?_; rintro e w' ⟨rfl, rfl⟩) | (go_at_call 64; refine (end_any _ _ _ _ _ _ _ (by omega) (by omega)).mono ?_; rintro e w1 ⟨rfl, hb⟩; obtain ⟨hcc, hff⟩ := bcell hb))
        exact ⟨rfl, by rw [HF.out]; rfl, (hbel.alloc hz _).trans (hb.mono (by simp; omega))⟩
      · have HF : Hid (segsBad s fin n 8 0 = some (p + 3)) := by
          show segsBad s fin n 8 0 = _
          rw [HM.out, show n - k = (n - (k + 1)) + 1 from by omega]; exact segs_stop _ _ _ _ _ _ hB
        clear hB
        have d8 : (bt s (p + 3) == 0) = false := by simpa using c8
        go_wp2_with (first | (go_at_call_of 47 (Value.bool true); refine (demand_yes _ _).mono ?_; rintro e w' ⟨rfl, rfl⟩) | (go_at_call_of 47 (Value.bool false); refine (demand_no _ _).mono ?_; rintro e w' ⟨rfl, rfl⟩) | (go_at_call 64; refine (end_any _ _ _ _ _ _ _ (by omega) (by omega)).mono ?_; rintro e w1 ⟨rfl, hb⟩; obtain ⟨hcc, hff⟩ := bcell hb))
        exact ⟨rfl, by rw [HF.out]; rfl, (hbel.alloc hz _).trans (hb.mono (by simp; omega))⟩
      · have HF : Hid (segsBad s fin n 8 0 = some (p + 4)) := by
          show segsBad s fin n 8 0 = _
          rw [HM.out, show n - k = (n - (k + 1)) + 1 from by omega]; exact segs_stop _ _ _ _ _ _ hB
        clear hB
        have d8 : (bt s (p + 3) == 0) = true := by simpa using c8
        go_wp2_with (first | (go_at_call_of 47 (Value.bool true); refine (demand_yes _ _).mono ?_; rintro e w' ⟨rfl, rfl⟩) | (go_at_call_of 47 (Value.bool false); refine (demand_no _ _).mono ?_; rintro e w' ⟨rfl, rfl⟩) | (go_at_call 64; refine (end_any _ _ _ _ _ _ _ (by omega) (by omega)).mono ?_; rintro e w1 ⟨rfl, hb⟩; obtain ⟨hcc, hff⟩ := bcell hb))
        exact ⟨rfl, by rw [HF.out]; rfl, (hbel.alloc hz _).trans (hb.mono (by simp; omega))⟩
      · have HF : Hid (segsBad s fin n 8 0 = some (p + 4)) := by
          show segsBad s fin n 8 0 = _
          rw [HM.out, show n - k = (n - (k + 1)) + 1 from by omega]; exact segs_stop _ _ _ _ _ _ hB
        clear hB
        have d8 : (bt s (p + 3) == 0) = true := by simpa using c8
        clear c8
        have d10 : decide (two s (p + 4) ≤ (s.size : Int)) = false := by simpa using c10
        go_wp2_with (first | (go_at_call_of 47 (Value.bool true); refine (demand_yes _ _).mono ?_; rintro e w' ⟨rfl, rfl⟩) | (go_at_call_of 47 (Value.bool false); refine (demand_no _ _).mono ?_; rintro e w' ⟨rfl, rfl⟩) | (go_at_call 64; refine (end_any _ _ _ _ _ _ _ (by omega) (by omega)).mono ?_; rintro e w1 ⟨rfl, hb⟩; obtain ⟨hcc, hff⟩ := bcell hb))
        exact ⟨rfl, by rw [HF.out]; rfl, (hbel.alloc hz _).trans (hb.mono (by simp; omega))⟩
      · have HF : Hid (segsBad s fin n 8 0 = some (p + 6)) := by
          show segsBad s fin n 8 0 = _
          rw [HM.out, show n - k = (n - (k + 1)) + 1 from by omega]; exact segs_stop _ _ _ _ _ _ hB
        clear hB
        have d8 : (bt s (p + 3) == 0) = true := by simpa using c8
        clear c8
        go_wp2_with (first | (go_at_call_of 47 (Value.bool true); refine (demand_yes _ _).mono ?_; rintro e w' ⟨rfl, rfl⟩) | (go_at_call_of 47 (Value.bool false); refine (demand_no _ _).mono ?_; rintro e w' ⟨rfl, rfl⟩) | (go_at_call 64; refine (end_any _ _ _ _ _ _ _ (by omega) (by omega)).mono ?_; rintro e w1 ⟨rfl, hb⟩; obtain ⟨hcc, hff⟩ := bcell hb))
        exact ⟨rfl, by rw [HF.out]; rfl, (hbel.alloc hz _).trans (hb.mono (by simp; omega))⟩
      · have HF : Hid (segsBad s fin n 8 0 = some (p + 6)) := by
          show segsBad s fin n 8 0 = _
          rw [HM.out, show n - k = (n - (k + 1)) + 1 from by omega]; exact segs_stop _ _ _ _ _ _ hB
        clear hB
        have d8 : (bt s (p + 3) == 0) = true := by simpa using c8
        clear c8
        have d12 : decide (two s (p + 4) + two s (p + 6) ≤ (s.size : Int)) = false := by simpa using c12
        go_wp2_with (first | (go_at_call_of 47 (Value.bool true); refine (demand_yes _ _).mono ?_; rintro e w' ⟨rfl, rfl⟩) | (go_at_call_of 47 (Value.bool false); refine (demand_no _ _).mono ?_; rintro e w' ⟨rfl, rfl⟩) | (go_at_call 64; refine (end_any _ _ _ _ _ _ _ (by omega) (by omega)).mono ?_; rintro e w1 ⟨rfl, hb⟩; obtain ⟨hcc, hff⟩ := bcell hb))
        exact ⟨rfl, by rw [HF.out]; rfl, (hbel.alloc hz _).trans (hb.mono (by simp; omega))⟩
      · have HF : Hid (segsBad s fin n 8 0 = segsBad s fin (n - (k + 1)) (p + 8) (bt s p + bt s (p + 1))) := by
          show segsBad s fin n 8 0 = _
          rw [HM.out, show n - k = (n - (k + 1)) + 1 from by omega]; exact segs_next _ _ _ _ _ hB
        clear hB
        have d8 : (bt s (p + 3) == 0) = true := by simpa using c8
        clear c8
        go_wp2_with (first | (go_at_call_of 47 (Value.bool true); refine (demand_yes _ _).mono ?_; rintro e w' ⟨rfl, rfl⟩) | (go_at_call 64; refine (end_any _ _ _ _ _ _ _ (by omega) (by omega)).mono ?_; rintro e w1 ⟨rfl, hb⟩; obtain ⟨hcc, hff⟩ := bcell hb))
        go_roundw
        case rel =>
          refine ⟨k + 1, by omega, by go_num, ?_, ?_, ?_⟩
          · rw [lastEnd, ← HP.out]
          · rw [HF.out, lastEnd, ← HP.out, show (8 : Int) + 8 * ((k + 1 : Nat) : Int) = p + 8 from by have := HP.out; omega]
          · have hb1 : Below (wr.alloc (.cells #[.int .i64 (bt s p), .int .i64 (bt s (p + 1)), .int .i64 (bt s (p + 2)), .int .i64 (bt s (p + 3)), .int .i64 (two s (p + 4)), .int .i64 (two s (p + 6))] 113)).heap.size (wr.alloc (.cells #[.int .i64 (bt s p), .int .i64 (bt s (p + 1)), .int .i64 (bt s (p + 2)), .int .i64 (bt s (p + 3)), .int .i64 (two s (p + 4)), .int .i64 (two s (p + 6))] 113)) w' := by assumption
            have hz1 := hb1.size
            simp at hz1
            exact ((hbel.alloc hz _).trans (hb1.mono (by simp; omega))).trans (hb.mono (by omega))
        case measure => simp [intOf]; omega
    · have hkn : k = n := by omega
      subst hkn
      have HF : Hid (segsBad s fin k 8 0 = .none) := by
        show segsBad s fin k 8 0 = _
        rw [HM.out, Nat.sub_self]; rfl
      clear HM
      go_wp2
      go_end0
      exact ⟨by rw [HF.out]; rfl, hbel⟩
end Go.Proofs.YtmendnmmiabolaaDoor
