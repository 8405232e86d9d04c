import Derived.Test.YtmendnmmiabolaaDoorV
import Derived.ProofKit
import Derived.OpenShut
import Derived.ShutString
import Derived.ChangeOld
import Derived.Below
import Derived.Deep.Slices
namespace Go.Proofs.YtmendnmmiabolaaDoor
open Go.ChangeShapes Go.WideShapes Go.ChangeAt Go.RowKit

theorem Tryd.own : ownKnob Tryd.prog.godebug = none := by kernel_rfl
theorem Tryd.laidOut : laidOutB Tryd.prog = true := by kernel_rfl
theorem Tryd.cells26 : Tryd.prog.cellsOf 26 = 5 := by kernel_rfl
theorem Tryd.cells3 : Tryd.prog.cellsOf 3 = 1 := by kernel_rfl
theorem Tryd.cells9 : Tryd.prog.cellsOf 9 = 1 := by kernel_rfl

theorem len5 {α : Type} : ∀ (l : List α), l.length = 5 → ∃ a b c d e, l = [a, b, c, d, e]
  | [a, b, c, d, e], _ => ⟨a, b, c, d, e, rfl⟩

/-- A step's cells: three numbers, two texts. -/
theorem open_op {H : Type} {enc : TypeId × Value → H} {w : World} {base : Nat} {spare : Nat → Bool} {held : Bool} {n : Nat} {cs : List Value} {x : DataW H × List MemPlace}
    (h : DataW.trod enc Tryd.prog w base spare held n 26 cs = some x) : ∃ (o : Int × Int × Int × ByteArray × ByteArray), cs = opCells o := by
  obtain ⟨xs, m, _, _, hl, hlen, hf⟩ := DataW.trod_struct Tryd.underlying26 h
  rw [Tryd.cells26] at hl
  obtain ⟨c0, c1, c2, c3, c4, rfl⟩ := len5 cs hl
  have hx : ∀ i, i < 5 → ∃ y, xs[i]? = some y := fun i hi => ⟨_, List.getElem?_eq_getElem (by rw [hlen]; exact hi)⟩
  obtain ⟨y0, e0⟩ := hx 0 (by omega)
  obtain ⟨y1, e1⟩ := hx 1 (by omega)
  obtain ⟨y2, e2⟩ := hx 2 (by omega)
  obtain ⟨y3, e3⟩ := hx 3 (by omega)
  obtain ⟨y4, e4⟩ := hx 4 (by omega)
  have f0 : DataW.trod enc Tryd.prog w base spare held m 3 (List.take (Tryd.prog.cellsOf 3) (List.drop 0 [c0, c1, c2, c3, c4])) = some y0 := (hf 0 _ rfl).trans e0
  rw [Tryd.cells3] at f0
  have f1 : DataW.trod enc Tryd.prog w base spare held m 3 (List.take (Tryd.prog.cellsOf 3) (List.drop 1 [c0, c1, c2, c3, c4])) = some y1 := (hf 1 _ rfl).trans e1
  rw [Tryd.cells3] at f1
  have f2 : DataW.trod enc Tryd.prog w base spare held m 3 (List.take (Tryd.prog.cellsOf 3) (List.drop 2 [c0, c1, c2, c3, c4])) = some y2 := (hf 2 _ rfl).trans e2
  rw [Tryd.cells3] at f2
  have f3 : DataW.trod enc Tryd.prog w base spare held m 9 (List.take (Tryd.prog.cellsOf 9) (List.drop 3 [c0, c1, c2, c3, c4])) = some y3 := (hf 3 _ rfl).trans e3
  rw [Tryd.cells9] at f3
  have f4 : DataW.trod enc Tryd.prog w base spare held m 9 (List.take (Tryd.prog.cellsOf 9) (List.drop 4 [c0, c1, c2, c3, c4])) = some y4 := (hf 4 _ rfl).trans e4
  rw [Tryd.cells9] at f4
  obtain ⟨n0, g0, _, _⟩ := DataW.trod_int Tryd.underlying3 f0
  obtain ⟨n1, g1, _, _⟩ := DataW.trod_int Tryd.underlying3 f1
  obtain ⟨n2, g2, _, _⟩ := DataW.trod_int Tryd.underlying3 f2
  obtain ⟨s3, g3, _, _⟩ := DataW.trod_string Tryd.underlying9 f3
  obtain ⟨s4, g4, _, _⟩ := DataW.trod_string Tryd.underlying9 f4
  simp only [List.drop_zero, List.drop_succ_cons, List.take_succ_cons, List.take_zero, List.cons.injEq, and_true] at g0 g1 g2 g3 g4
  exact ⟨(n0, n1, n2, s3, s4), by simp [opCells, g0, g1, g2, g3, g4]⟩

theorem add_none (g off k : Nat) : (⟨g, off, none⟩ : Addr).add k = ⟨g, off + k, none⟩ := by
  unfold Addr.add
  by_cases h : k = 0
  · subst h; simp
  · simp [h]

/-- WHAT IS TOLD OF THE SCRIPT: it has no step; or each step's five cells lie behind one another. -/
def IsScript (w : World) (a : Option Addr) (len : Nat) : Prop :=
  len = 0 ∨ ∃ (g off : Nat) (F : Nat → Int × Int × Int × ByteArray × ByteArray), a = some ⟨g, off, none⟩ ∧ len ≤ maxLen ∧ g < w.heap.size ∧ ∀ k : Nat, k < len →
    w.cell? ⟨g, off + k * 5, none⟩ = some (.int .i64 (F k).1) ∧ w.cell? ⟨g, off + k * 5 + 1, none⟩ = some (.int .i64 (F k).2.1) ∧ w.cell? ⟨g, off + k * 5 + 2, none⟩ = some (.int .i64 (F k).2.2.1) ∧
    w.cell? ⟨g, off + k * 5 + 3, none⟩ = some (.string (F k).2.2.2.1) ∧ w.cell? ⟨g, off + k * 5 + 4, none⟩ = some (.string (F k).2.2.2.2)

theorem walk (a0 : Option Addr) (len0 cap0 : Nat) (w : World) (w0 : IsScript w a0 len0) :
    Calls Tryd.prog 3 #[.slice a0 len0 cap0] w fun e w' => e = .returned (.bool true) ∧ Below w.heap.size w w' := by
  rcases w0 with rfl | ⟨g, off, F, rfl, hl, hg, hc⟩
  · exact vets_zero _ _ _
  · exact vets_some g off len0 cap0 hl (fun k => (F k).1) (fun k => (F k).2.1) (fun k => (F k).2.2.1) (fun k => (F k).2.2.2.1) (fun k => (F k).2.2.2.2) w hg hc

theorem script_of {H : Type} {enc : TypeId × Value → H} {w : World} {base : Nat} {spare : Nat → Bool} {held : Bool} {fuel : Nat} {a0 : Option Addr} {len0 cap0 : Nat} {x : DataW H × List MemPlace}
    (hf : DataW.trod enc Tryd.prog w base spare held fuel 22 [.slice a0 len0 cap0] = some x) : IsScript w a0 len0 := by
  rcases Go.Deep.open_slice Tryd.underlying22 hf with ⟨hcs, _⟩ | ⟨a, len, cap, m, n, D, Pl, hcs, _, hl, hm, hmm, _, hx⟩
  · simp only [List.cons.injEq, Value.slice.injEq, and_true] at hcs
    exact .inl hcs.2.1
  · simp only [List.cons.injEq, Value.slice.injEq, and_true] at hcs
    obtain ⟨rfl, rfl, rfl⟩ := hcs
    by_cases h0 : len0 = 0
    · exact .inl h0
    have hlm : len0 ≤ m := by rw [hmm]; split <;> omega
    rw [Tryd.cells26] at hx
    obtain ⟨F, hF⟩ := Go.Deep.choose_lt (α := Int × Int × Int × ByteArray × ByteArray) (n := len0) (p := fun i o => w.cells? base (a.add (i * 5)) 5 = some (opCells o)) (fun i hi => by
      obtain ⟨cs', h1, h2⟩ := hx i (by omega)
      obtain ⟨o, rfl⟩ := open_op h2
      exact ⟨o, h1⟩)
    have hspot : a.spot = none := by
      have h1 := (World.cells?_some (hF 0 (by omega))).2.2 0 (by omega)
      have h2 := World.cell?_spot (h1.trans rfl)
      simpa [Addr.add] using h2
    obtain ⟨g, off, spot⟩ := a
    simp only at hspot
    subst hspot
    have hcell : ∀ k : Nat, k < len0 → ∀ j, j < 5 → w.cell? ⟨g, off + k * 5 + j, none⟩ = (opCells (F k))[j]? := by
      intro k hk j hj
      have h1 := (World.cells?_some (hF k hk)).2.2 j hj
      rw [add_none, add_none] at h1
      exact h1
    refine .inr ⟨g, off, F, rfl, by omega, ?_, fun k hk => ⟨(hcell k hk 0 (by omega)), (hcell k hk 1 (by omega)), (hcell k hk 2 (by omega)), (hcell k hk 3 (by omega)), (hcell k hk 4 (by omega))⟩⟩
    exact World.block_lt_of_cell? w ⟨g, off + 0 * 5 + 0, none⟩ (hcell 0 (by omega) 0 (by omega))

set_option maxRecDepth 100000 in
theorem lifted (os : Os) (started : os.Started) (H : Type) (enc : TypeId × Value → H) :
    ReturnsInHanded {} Tryd.checked os 3 .any (Rows.vetsSpec.pre6 enc Tryd.prog Tryd.f3 Rows.vetsRow.domain false) (Rows.vetsSpec.post enc Tryd.prog Tryd.f3 false true false false) := by
  refine returnsInHanded_of_change (C := Tryd.checked) Tryd.own started (by kernel_rfl) Tryd.func3
    (ChangeSpec.witness6 (enc := enc) (C := Tryd.checked) false ⟨#[], #[.slice none 0 0], []⟩ 8 (by kernel_rfl) (by kernel_rfl) (by kernel_rfl) (by kernel_rfl)) ?_
  intro W base args ds gs before hval0 hW hcnd _
  have hval : ∀ (j : Nat) t v, Tryd.f3.params[j]? = some t → args[j]? = some v → Value.okWide Tryd.prog W .any base t v := hval0
  have hW' := hW
  obtain ⟨p, q, hA0, hV, rfl, hfz, hnd⟩ := hW
  have hA : DataW.TrodAll enc Tryd.prog W 0 (fun _ => true) true Tryd.f3.params.toList args.toList ds p := hA0
  rw [Tryd.params3] at hA hval
  obtain ⟨v0, vs0, d0, ds0, p0, q0, hargs, rfl, rfl, h0, r0⟩ := trodAll_cons hA
  obtain ⟨rfl, rfl, rfl⟩ := trodAll_nil r0
  obtain rfl : args = #[v0] := by cases args; simp_all
  obtain ⟨rfl, rfl⟩ := trodVars_none hV
  obtain ⟨a0, len0, cap0, rfl⟩ := okWide_slice Tryd.underlying22 (hval 0 22 v0 rfl rfl)
  have k0 := h0
  have lt0 : ∀ x ∈ p0, x.block < W.heap.size := by obtain ⟨m, hm⟩ := k0; exact DataW.trod_lt m _ _ _ hm
  have w0 : IsScript W a0 len0 := by
    obtain ⟨fuel, hf⟩ := h0
    exact script_of hf
  clear hA0 hval0
  refine (walk a0 len0 cap0 W w0).mono fun e W' ⟨he, bel⟩ => ?_
  subst he
  exact ⟨_, rfl, _, _, _, [], _, [], hW', trodAll_mk1 (shut_bool Tryd.underlying4 _), (trodAll_cons_mk (Below.trod Tryd.laidOut (by kernel_rfl) (of_decide_eq_true (by kernel_rfl)) k0 bel lt0) trodAll_mk0), rfl, bel.frame _, fun h => by cases h⟩

theorem vets_holds : Rows.VetsSaid :=
  OpenClaim.holds_of_wide 3 Tryd.f3 rfl rfl rfl rfl rfl rfl rfl ⟨rfl, rfl, rfl, rfl, rfl⟩ rfl rfl rfl rfl rfl (by kernel_rfl) Tryd.func3 (by kernel_rfl)
    (of_decide_eq_true (by kernel_rfl)) (by unfold Func.isWrapper; first | (rw [if_pos (by decide +kernel)]; kernel_rfl) | (rw [if_neg (by decide +kernel)]; exact ⟨rfl, rfl⟩))
    (fun os started H enc _ => lifted os started H enc)
#print axioms vets_holds
end Go.Proofs.YtmendnmmiabolaaDoor
