import Derived.Test.YtdjfflpjlahleaaDoorD
import Derived.Maps.AppendAt
namespace Go.Proofs.YtdjfflpjlahleaaDoor
open Go.RowKit

theorem Tryd.info108 : (Tryd.prog.info? 108).map (fun i => (i.zero, i.size, i.bytes)) = some (some (.agg #[.int .i64 0, .int .i64 0, .int .i64 0, .int .i64 0, .int .i64 0]), 5, 40) := by kernel_rfl

theorem segVal_cells (w : World) (s : ByteArray) (p : Int) (t : TypeId) : ∀ j u, (segVal s p)[j]? = some u → (w.alloc (.cells (segVal s p).toArray t)).cell? ((⟨w.heap.size, 0, none⟩ : Addr).add j) = some u := by
  intro j u hj
  have hlt : j < 5 := by
    have := (List.getElem?_eq_some_iff.1 hj).1
    simpa [segVal] using this
  match j, hlt with
  | 0, _ => simp [segVal] at hj; subst hj; simp [Addr.add, segVal]
  | 1, _ => simp [segVal] at hj; subst hj; simp [Addr.add, segVal]
  | 2, _ => simp [segVal] at hj; subst hj; simp [Addr.add, segVal]
  | 3, _ => simp [segVal] at hj; subst hj; simp [Addr.add, segVal]
  | 4, _ => simp [segVal] at hj; subst hj; simp [Addr.add, segVal]
theorem segVal_cells' (w : World) (b : Nat) (hb : b = w.heap.size) (s : ByteArray) (p : Int) (t : TypeId) : ∀ j u, (segVal s p)[j]? = some u → (w.alloc (.cells (segVal s p).toArray t)).cell? ((⟨b, 0, none⟩ : Addr).add j) = some u := by
  subst hb; exact segVal_cells w s p t
theorem segVal_one (s : ByteArray) (p : Int) : ∀ u ∈ segVal s p, u.oneCell' = true := by
  intro u hu
  simp [segVal] at hu
  rcases hu with rfl | rfl | rfl | rfl | rfl <;> rfl
theorem segs_next (s : ByteArray) (fin : Int) (n : Nat) (p last : Int) (h : segBad s p last fin = .none) : segsBad s fin (n + 1) p last = segsBad s fin n (p + 8) (bt s p + bt s (p + 1)) := by
  rw [segsBad, h]
theorem segs_stop (s : ByteArray) (fin : Int) (n : Nat) (p last x : Int) (h : segBad s p last fin = some x) : segsBad s fin (n + 1) p last = some x := by
  rw [segsBad, h]

/-- Of each segment ahead of the k-th nothing is wrong: how the look goes on from there. -/
def lastEnd (s : ByteArray) : Nat → Int
  | 0 => 0
  | n + 1 => bt s (8 + 8 * (n : Int)) + bt s (8 + 8 * (n : Int) + 1)

theorem seg_no (s : ByteArray) (p last fin x : Int) (hs : s.size ≤ 300) (h0 : 0 ≤ p) (h8 : p + 7 < (s.size : Int)) (h : segBad s p last fin = some x) (w : World) :
    Calls Tryd.prog 60 #[.string s, .int .i64 p, .int .i64 last, .int .i64 fin] w fun e w' => e = .panicked (noImg x) ∧ Below w.heap.size w w' :=
  (seg_any s p last fin hs h0 h8 w).mono fun e w' ⟨he, hb⟩ => ⟨by rw [he, h]; rfl, hb⟩
theorem seg_yes (s : ByteArray) (p last fin : Int) (hs : s.size ≤ 300) (h0 : 0 ≤ p) (h8 : p + 7 < (s.size : Int)) (h : segBad s p last fin = .none) (w : World) :
    Calls Tryd.prog 60 #[.string s, .int .i64 p, .int .i64 last, .int .i64 fin] w fun e w' => e = .returned (.agg #[.int .i64 (bt s p), .int .i64 (bt s (p + 1)), .int .i64 (bt s (p + 2)), .int .i64 (two s (p + 4)), .int .i64 (two s (p + 6))]) ∧ Below w.heap.size w w' :=
  (seg_any s p last fin hs h0 h8 w).mono fun e w' ⟨he, hb⟩ => ⟨by rw [he, h]; rfl, hb⟩

theorem ownsRow_below {w w1 : World} {base : Nat} {e : TypeId} {size : Nat} {v : Value} {n : Nat} {xs : List Value} (h : w.ownsRow base e size v n xs) (hb : Below w.heap.size w w1) : w1.ownsRow base e size v n xs := by
  have hlt := h.lt
  obtain ⟨h1, h2⟩ := h
  refine ⟨h1, ?_⟩
  rcases h2 with h2 | ⟨g, cap, cur, hv, hbg, hg, r⟩
  · exact .inl h2
  · exact .inr ⟨g, cap, cur, hv, hbg, (hb.block g (hlt g (by rw [hv]; rfl)).2).trans hg, r⟩

theorem app_after {w wr w1 w2 : World} {v : Value} {n : Nat} {xs : List Value} {e : TypeId} {size : Nat} {a0 a1 a2 a3 a4 : Value} {t : TypeId} {B : Obj} (hown : wr.ownsRow w.heap.size e size v n xs) (hbel : Below w.heap.size w wr) (hb : Below wr.heap.size wr w1)
    (hg : ((w1.alloc (.cells #[a0, a1, a2, a3, a4] t)).alloc B).grownBy w2 v.ownBlock) :
    Below w.heap.size w w2 ∧ w1.heap.size + 2 ≤ w2.heap.size ∧ w2.cell? ⟨w1.heap.size, 0, none⟩ = some a0 ∧ w2.cell? ⟨w1.heap.size, 1, none⟩ = some a1 ∧ w2.cell? ⟨w1.heap.size, 2, none⟩ = some a2 ∧ w2.cell? ⟨w1.heap.size, 3, none⟩ = some a3 ∧ w2.cell? ⟨w1.heap.size, 4, none⟩ = some a4 := by
  have hz := hb.size
  have hz2 := hbel.size
  have hne : some w1.heap.size ≠ v.ownBlock := by
    intro h
    have := (hown.lt _ h.symm).2
    omega
  have b1 : Below w.heap.size w w1 := hbel.trans (hb.mono hz2)
  have b2 : Below w.heap.size w ((w1.alloc (.cells #[a0, a1, a2, a3, a4] t)).alloc B) := (b1.alloc (by omega) _).alloc (by simp; omega) _
  refine ⟨b2.grown hg (by simp; omega) (fun k hk => (hown.lt k hk).1), ?_, ?_, ?_, ?_, ?_, ?_⟩
  · have := hg.size; simp at this; omega
  all_goals exact hg.cell (by simp [go_sem]) hne

set_option maxRecDepth 100000 in
set_option maxHeartbeats 1000000 in
theorem segs_any (s : ByteArray) (n : Nat) (fin : Int) (hs : s.size ≤ 300) (hn : n ≤ 4) (h8 : 8 + 8 * (n : Int) ≤ (s.size : Int)) (w : World) :
    Calls Tryd.prog 48 #[.string s, .int .i64 (8 + 8 * (n : Int)), .int .i64 fin] w fun e w' => ∃ v, e = outc (segsBad s fin n 8 0) v ∧ Below w.heap.size w w' ∧ (segsBad s fin n 8 0 = .none → w'.ownsRow w.heap.size 108 5 v n (segVals s n)) := by
  obtain ⟨i0, hi, hz0, hz1, hz2⟩ := info_parts Tryd.info108
  go_enter Tryd.func48, Tryd.ntmps48
  go_wp2
  go_loopw [7, 8, 9] (fun v l a wr => ∃ k : Nat, k ≤ n ∧ a = .int .i64 (8 + 8 * (k : Int)) ∧ l = .int .i64 (lastEnd s k) ∧ segsBad s fin n 8 0 = segsBad s fin (n - k) (8 + 8 * (k : Int)) (lastEnd s k) ∧ wr.ownsRow w.heap.size 108 5 v k (segVals s k) ∧ Below w.heap.size w wr) (fun _ _ a _ => 8 + 8 * n - (intOf a).toNat)
  case atStart => exact ⟨0, by omega, rfl, rfl, rfl, World.ownsRow_nil _ _ _ _, Below.refl _ _⟩
  case round =>
    obtain ⟨k, hk, rfl, rfl, hm, hown, hbel⟩ := hrel
    have HM : Hid (segsBad s fin n 8 0 = segsBad s fin (n - k) (8 + 8 * (k : Int)) (lastEnd s k)) := hm
    clear hm
    by_cases hlt : k < n
    · have h1 : (8 : Int) + 8 * (k : Int) < 8 + 8 * (n : Int) := by omega
      cases hB : segBad s (8 + 8 * (k : Int)) (lastEnd s k) fin with
      | some x =>
        have HB : Hid (segBad s (8 + 8 * (k : Int)) (lastEnd s k) fin = some x) := hB
        clear hB
        go_wp2_with (go_at_call 60; refine (seg_no s _ _ _ x hs (by omega) (by omega) HB.out _).mono ?_; rintro e w' ⟨rfl, hb⟩)
        have HF : segsBad s fin n 8 0 = some x := by rw [HM.out, show n - k = (n - (k + 1)) + 1 from by omega]; exact segs_stop _ _ _ _ _ _ HB.out
        exact ⟨rfl, .bool true, by rw [HF]; rfl, hbel.trans (hb.mono hbel.size), fun h => by rw [HF] at h; cases h⟩
      | none =>
        have HB : Hid (segBad s (8 + 8 * (k : Int)) (lastEnd s k) fin = .none) := hB
        clear hB
        have q0 := bt_bd s (8 + 8 * (k : Int))
        have q1 := bt_bd s (8 + 8 * (k : Int) + 1)
        have HO : Hid (wr.ownsRow w.heap.size 108 5 u7 k (segVals s k)) := hown
        go_wp2_with (first
          | (go_at_call 60; refine (seg_yes s _ _ _ hs (by omega) (by omega) HB.out _).mono ?_; rintro e w1 ⟨rfl, hb⟩; have ho1 := ownsRow_below HO.out hb)
          | (at_builtin; refine wpList_append_own _ rfl _ _ 94 rfl w.heap.size 108 i0 _ 5 40 Tryd.underlying94 hi hz0 hz1 hz2 rfl (by decide) _ _ _ rfl ((ho1.alloc _).alloc _) ⟨w1.heap.size + 1, 0, none⟩ 1 1 (segVal s (8 + 8 * (k : Int))) rfl rfl ?c1 (segVal_one s _) (by unfold maxLen; omega) (by omega) ?c5 ?_)
          | (go_at_call 61; refine (end_any _ _ _ _ _ _ q0 q1).mono ?_; rintro e w3 ⟨rfl, hb3⟩))
        case c1 => exact fun j u h => segVal_cells' _ _ (by simp) s _ 108 j u h
        case c5 => have h5 := hb.size; have h6 := hbel.size; simp; omega
        intro v' w2 hown' hgrow _
        obtain ⟨R1, R2, R3, R4, R5, R6, R7⟩ := app_after HO.out hbel hb hgrow
        have HN : Hid (w2.ownsRow w.heap.size 108 5 v' (k + 1) (segVals s (k + 1))) := hown'
        have HB2 : Hid (Below w.heap.size w w2) := R1
        clear hown' hgrow hown ho1 R1
        go_wp2_with (go_at_call 61; refine (end_any _ _ _ _ _ _ q0 q1).mono ?_; rintro e w3 ⟨rfl, hb3⟩)
        go_roundw
        case rel =>
          refine ⟨k + 1, by omega, by go_num, rfl, ?_, ownsRow_below HN.out hb3, HB2.out.trans (hb3.mono HB2.out.size)⟩
          rw [HM.out, show n - k = (n - (k + 1)) + 1 from by omega, segs_next _ _ _ _ _ HB.out]
          rw [show (8 : Int) + 8 * ((k + 1 : Nat) : Int) = 8 + 8 * (k : Int) + 8 from by omega]
          rfl
        case measure => simp [intOf]; omega
    · have hkn : k = n := by omega
      subst hkn
      have HF : Hid (segsBad s fin k 8 0 = .none) := by
        show segsBad s fin k 8 0 = _
        rw [HM.out, Nat.sub_self]; rfl
      clear HM
      go_wp2
      go_ret
      exact ⟨_, by rw [HF.out]; rfl, hbel, fun _ => hown⟩
end Go.Proofs.YtdjfflpjlahleaaDoor
