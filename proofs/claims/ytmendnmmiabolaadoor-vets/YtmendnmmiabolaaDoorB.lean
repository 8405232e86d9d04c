import Derived.Test.YtmendnmmiabolaaDoorA
namespace Go.Proofs.YtmendnmmiabolaaDoor
open Go.RowKit

set_option maxHeartbeats 400000 in
theorem catch_panicking (p q : Nat) (x y : Int) (a : Int) (w : World) (hc : w.cell? ⟨p, 0, none⟩ = some (.int .i64 x)) (hz : w.frozen? ⟨p, 0, none⟩ = false) (hc2 : w.cell? ⟨q, 0, none⟩ = some (.int .i64 y)) (hz2 : w.frozen? ⟨q, 0, none⟩ = false) (hp : p < w.heap.size) (hq : q < w.heap.size) (hpq : ¬ p = q) :
    CallsD Tryd.prog 27 #[.pointer (some ⟨p, 0, none⟩), .pointer (some ⟨q, 0, none⟩)] (.panicking (noImg a)) w fun e u' w' =>
      e = .returned (.tuple #[]) ∧ (∃ v, u' = .panicking [{ v := v, recovered := true }]) ∧ ∃ w1, Below w.heap.size w w1 ∧ w' = (w1.setCell ⟨p, 0, none⟩ (.int .i64 3)).setCell ⟨q, 0, none⟩ (.int .i64 a) := by
  refine callsD_of_wpS Tryd.func27 rfl fun c₀ cs hu => ?_
  apply wpS_seq
  apply wpS_region
  simp [wpOpsS, go_sem, recoverD, hu, Tryd.ntmps27, Exit.thenS, noImg]
  clear hu
  refine wpS_of_wp ?_
  change Code.wp _ _ _ { tmps := #[Value.pointer (some ⟨p, 0, none⟩), Value.pointer (some ⟨q, 0, none⟩), Value.iface 91 (Value.agg #[Value.int IntKind.i64 a]), Value.iface 91 (Value.agg #[Value.int IntKind.i64 a]), undef, undef, undef, undef], defers := [] } _
  go_wp2_with (go_at_call 28; refine (placeOf_any _ _).mono ?_; rintro e w' ⟨rfl, hb⟩; obtain ⟨hcc, hff⟩ := bcell hb)
  exact ⟨rfl, _, rfl, .tuple #[], by simp [results, Tryd.results27], rfl, ⟨_, rfl⟩, w', hb, rfl⟩

set_option maxHeartbeats 400000 in
theorem catch_idle (p q : Addr) (w : World) :
    CallsD Tryd.prog 27 #[.pointer (some p), .pointer (some q)] .returning w fun e u' w' => e = .returned (.tuple #[]) ∧ u' = .returning ∧ w' = w := by
  refine callsD_of_wpS Tryd.func27 rfl fun c₀ cs hu => ?_
  apply wpS_seq
  apply wpS_region
  simp [wpOpsS, go_sem, recoverD, hu, Tryd.ntmps27, Exit.thenS]
  refine wpS_of_wp ?_
  change Code.wp _ _ _ { tmps := #[Value.pointer (some p), Value.pointer (some q), Value.nilIface, Value.nilIface, undef, undef, undef, undef], defers := [] } _
  go_wp2
  cases c₀
  simp_all [bodyPostS, results, Tryd.results27]
end Go.Proofs.YtmendnmmiabolaaDoor
