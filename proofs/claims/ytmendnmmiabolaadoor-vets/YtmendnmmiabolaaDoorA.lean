import Derived.Test.YtmendnmmiabolaaDoorRows
import Derived.WalkKit
import Derived.WalkSpells
import Derived.WalkLawsBesides
import Derived.Deep.QuietTactic
import Derived.BigQuiet
import Derived.Recover
import Derived.Laws.BitsAllLaws
namespace Go.Proofs.YtmendnmmiabolaaDoor
open Go.RowKit

def noImg (at_ : Int) : List PanicEntry := [{ v := .iface 91 (.agg #[.int .i64 at_]), recovered := false }]

/-- The byte of a text at a place. -/
def bt (s : ByteArray) (i : Int) : Int := ((s.data[i.toNat]?).getD 0).toNat
/-- Two bytes, the lower one first. -/
def two (s : ByteArray) (i : Int) : Int := bt s i + 256 * bt s (i + 1)

theorem bt_bd (s : ByteArray) (i : Int) : 0 ≤ bt s i ∧ bt s i ≤ 255 := by
  unfold bt
  have := (((s.data[i.toNat]?).getD 0) : UInt8).toNat_lt
  omega
theorem two_bd (s : ByteArray) (i : Int) : 0 ≤ two s i ∧ two s i ≤ 65535 := by
  have h1 := bt_bd s i
  have h2 := bt_bd s (i + 1)
  unfold two; omega
theorem bt_of (s : ByteArray) : ∀ (i : Int) (h : i.toNat < s.size), ((s[i.toNat]'h).toNat : Int) = bt s i := by
  intro i h
  unfold bt
  have : s.data[i.toNat]? = some (s[i.toNat]'h) := by
    have h' : i.toNat < s.data.size := by simpa using h
    rw [Array.getElem?_eq_getElem h']; rfl
  rw [this]; rfl

set_option maxHeartbeats 400000 in
theorem demand_yes (a : Int) (w : World) :
    Calls Tryd.prog 47 #[.bool true, .int .i64 a] w fun e w' => e = .returned (.tuple #[]) ∧ w' = w := by
  go_enter Tryd.func47, Tryd.ntmps47
  go_wp2
  go_end0
  exact ⟨rfl, rfl⟩

set_option maxHeartbeats 400000 in
theorem demand_no (a : Int) (w : World) :
    Calls Tryd.prog 47 #[.bool false, .int .i64 a] w fun e w' => e = .panicked (noImg a) ∧ w' = w := by
  go_enter Tryd.func47, Tryd.ntmps47
  go_wp2
  exact ⟨rfl, rfl, rfl⟩

theorem wrapI {x : Int} (h0 : -9000000000000000000 ≤ x) (h1 : x ≤ 9000000000000000000) : IntKind.i64.wrap x = x := by
  rw [IntKind.wrap_i64]; omega

theorem or_two (a b : Nat) (ha : a < 256) (hb : b < 256) : bits .or .i64 (a : Int) (wrap64 ((b : Int) * 256)) = (a : Int) + 256 * (b : Int) := by
  have hw : wrap64 ((b : Int) * 256) = ((b * 256 : Nat) : Int) := by unfold wrap64; omega
  rw [hw]
  have hx : a ||| b * 256 = a + b * 256 := by
    have h := Nat.shiftLeft_add_eq_or_of_lt (i := 8) (b := a) (by omega) b
    rw [Nat.or_comm, show b * 256 = b <<< 8 from by rw [Nat.shiftLeft_eq]]
    rw [← h]; omega
  show IntKind.i64.wrap ((BitVec.ofInt 64 (a : Int) ||| BitVec.ofInt 64 ((b * 256 : Nat) : Int)).toNat : Int) = _
  have e1 : (BitVec.ofInt 64 (a : Int)).toNat = a := by rw [BitVec.toNat_ofInt]; omega
  have e2 : (BitVec.ofInt 64 ((b * 256 : Nat) : Int)).toNat = b * 256 := by rw [BitVec.toNat_ofInt]; omega
  rw [BitVec.toNat_or, e1, e2, hx, IntKind.wrap_i64]
  omega

theorem or_two_bt (s : ByteArray) (i : Int) (h : i.toNat < s.size) (h' : (i + 1).toNat < s.size) :
    bits .or .i64 ((s[i.toNat]'h).toNat : Int) (wrap64 (((s[(i + 1).toNat]'h').toNat : Int) * 256)) = two s i := by
  rw [or_two _ _ (UInt8.toNat_lt _) (UInt8.toNat_lt _), bt_of, bt_of]; rfl
theorem add_two_bt (s : ByteArray) (i : Int) (h : i.toNat < s.size) (h' : (i + 1).toNat < s.size) :
    wrap64 (((s[i.toNat]'h).toNat : Int) + wrap64 (256 * ((s[(i + 1).toNat]'h').toNat : Int))) = two s i := by
  rw [bt_of, bt_of]
  have h1 := bt_bd s i
  have h2 := bt_bd s (i + 1)
  unfold two wrap64; omega
theorem ret_int {k : IntKind} {a b : Int} (h : a = b) : Ending.returned (.int k a) = .returned (.int k b) := by rw [h]
theorem Tryd.as91 (v : Value) (w : World) : (Instr.typeAssert (.iface 91 v) 20 91 true).run Tryd.prog w = .ok (.tuple #[v, .bool true]) w := by kernel_rfl

set_option maxHeartbeats 400000 in
theorem number_any (s : ByteArray) (a : Int) (hs : s.size ≤ 300) (h0 : 0 ≤ a) (h2 : a + 1 < (s.size : Int)) (w : World) :
    Calls Tryd.prog 62 #[.string s, .int .i64 a] w fun e w' => e = .returned (.int .i64 (two s a)) ∧ ∃ n, w' = w.drewN n := by
  have h1 : a < (s.size : Int) := by omega
  have h3 : 0 ≤ a + 1 := by omega
  have e1 : IntKind.i64.wrap (a + 1) = a + 1 := wrapI (by omega) (by omega)
  have e2 : ∀ b : UInt8, IntKind.i64.wrap (b.toNat : Int) = (b.toNat : Int) := fun b => wrapI (by omega) (by have := b.toNat_lt; omega)
  go_enter Tryd.func62, Tryd.ntmps62
  go_wp2
  go_quiet (fail)
  go_wp2
  go_ret
  exact ⟨ret_int (or_two_bt s a _ _), _, rfl⟩

set_option maxHeartbeats 400000 in
theorem two_any (s : ByteArray) (a : Int) (hs : s.size ≤ 300) (h0 : 0 ≤ a) (h2 : a + 1 < (s.size : Int)) (w : World) :
    Calls Tryd.prog 30 #[.string s, .int .i64 a] w fun e w' => e = .returned (.int .i64 (two s a)) ∧ ∃ n, w' = w.drewN n := by
  have h1 : a < (s.size : Int) := by omega
  have h3 : 0 ≤ a + 1 := by omega
  have e1 : IntKind.i64.wrap (a + 1) = a + 1 := wrapI (by omega) (by omega)
  have e2 : ∀ b : UInt8, IntKind.i64.wrap (b.toNat : Int) = (b.toNat : Int) := fun b => wrapI (by omega) (by have := b.toNat_lt; omega)
  go_enter Tryd.func30, Tryd.ntmps30
  go_wp2
  go_quiet (fail)
  go_wp2
  go_ret
  exact ⟨ret_int (add_two_bt s a _ _), _, rfl⟩

set_option maxHeartbeats 400000 in
theorem end_any (p n k z b c : Int) (w : World) (hp : 0 ≤ p ∧ p ≤ 255) (hn : 0 ≤ n ∧ n ≤ 255) :
    Calls Tryd.prog 64 #[.agg #[.int .i64 p, .int .i64 n, .int .i64 k, .int .i64 z, .int .i64 b, .int .i64 c]] w fun e w' => e = .returned (.int .i64 (p + n)) ∧ Below w.heap.size w w' := by
  go_enter Tryd.func64, Tryd.ntmps64
  go_wp2
  go_ret
  exact ⟨rfl, (Below.refl _ _).alloc (Nat.le_refl _) _⟩

set_option maxHeartbeats 400000 in
theorem movesOf_any (s : ByteArray) (h6 : (6 : Int) < (s.size : Int)) (w : World) :
    Calls Tryd.prog 52 #[.string s] w fun e w' => e = .returned (.int .i64 (8 + bt s 6 * 8)) ∧ w' = w := by
  have l6 : 6 < s.size := by omega
  have g6 : ((s[6]'l6).toNat : Int) = bt s 6 := bt_of s 6 l6
  have b6 := bt_bd s 6
  go_enter Tryd.func52, Tryd.ntmps52
  go_wp2
  go_ret
  exact ⟨rfl, rfl⟩

set_option maxHeartbeats 400000 in
theorem bodyOf_any (s : ByteArray) (h7 : (7 : Int) < (s.size : Int)) (w : World) :
    Calls Tryd.prog 48 #[.string s] w fun e w' => e = .returned (.int .i64 (8 + bt s 6 * 8 + bt s 7 * 4)) ∧ ∃ n, w' = w.drewN n := by
  have l7 : 7 < s.size := by omega
  have g7 : ((s[7]'l7).toNat : Int) = bt s 7 := bt_of s 7 l7
  have b6 := bt_bd s 6
  have b7 := bt_bd s 7
  have h6 : (6 : Int) < (s.size : Int) := by omega
  go_enter Tryd.func48, Tryd.ntmps48
  go_wp2
  go_quiet (first | (go_at_call 52; refine Calls.quiet_of_same (movesOf_any s h6 _)))
  go_wp2
  go_ret
  exact ⟨rfl, _, rfl⟩

set_option maxHeartbeats 400000 in
theorem num_any (a : Int) (w : World) :
    Calls Tryd.prog 8 #[.int .i64 a] w fun e w' => e = .returned (.int .i64 a) ∧ w' = w := by
  go_enter Tryd.func8, Tryd.ntmps8
  go_wp2
  go_ret
  exact ⟨rfl, rfl⟩

set_option maxHeartbeats 400000 in
theorem placeOf_any (a : Int) (w : World) :
    Calls Tryd.prog 28 #[.iface 91 (.agg #[.int .i64 a])] w fun e w' => e = .returned (.int .i64 a) ∧ Below w.heap.size w w' := by
  have hta := Tryd.as91
  go_enter Tryd.func28, Tryd.ntmps28
  go_wp2
  go_ret
  exact ⟨rfl, (Below.refl _ _).alloc (Nat.le_refl _) _⟩

theorem bcell {W w1 : World} (hb : Below W.heap.size W w1) : (∀ b o, b < W.heap.size → w1.cell? ⟨b, o, none⟩ = W.cell? ⟨b, o, none⟩) ∧ (∀ b o, b < W.heap.size → w1.frozen? ⟨b, o, none⟩ = W.frozen? ⟨b, o, none⟩) :=
  ⟨fun b o h => hb.cell (p := ⟨b, o, none⟩) h, fun b o h => hb.frozen (p := ⟨b, o, none⟩) h⟩

/-- How a look ends: at a place that is wrong, or with a value. -/
def outc : Option Int → Value → Ending
  | .none, v => .returned v
  | .some x, _ => .panicked (noImg x)

/-- The place of what is wrong with the segment whose bytes begin at p. -/
def segBad (s : ByteArray) (p last fin : Int) : Option Int :=
  if bt s p < last ∨ 32 ≤ bt s p then some p
  else if bt s (p + 1) < 1 ∨ 8 < bt s (p + 1) ∨ 32 < bt s p + bt s (p + 1) then some (p + 1)
  else if bt s (p + 2) < 1 ∨ 4 < bt s (p + 2) then some (p + 2)
  else if bt s (p + 3) ≠ 0 then some (p + 3)
  else if two s (p + 4) < fin ∨ (s.size : Int) < two s (p + 4) then some (p + 4)
  else if bt s (p + 1) * 32 < two s (p + 6) ∨ (s.size : Int) < two s (p + 4) + two s (p + 6) then some (p + 6)
  else .none

/-- The first wrong place of so many segments from p on. -/
def segsBad (s : ByteArray) (fin : Int) : Nat → Int → Int → Option Int
  | 0, _, _ => .none
  | n + 1, p, last => match segBad s p last fin with
    | .some x => .some x
    | .none => segsBad s fin n (p + 8) (bt s p + bt s (p + 1))

/-- The five numbers of the segment at p. -/
def segVal (s : ByteArray) (p : Int) : List Value := [.int .i64 (bt s p), .int .i64 (bt s (p + 1)), .int .i64 (bt s (p + 2)), .int .i64 (two s (p + 4)), .int .i64 (two s (p + 6))]
/-- Those of the first n. -/
def segVals (s : ByteArray) : Nat → List Value
  | 0 => []
  | n + 1 => segVals s n ++ segVal s (8 + 8 * (n : Int))

/-- The six numbers of the segment at p, as the program keeps them. -/
def sgVal (s : ByteArray) (p : Int) : List Value := [.int .i64 (bt s p), .int .i64 (bt s (p + 1)), .int .i64 (bt s (p + 2)), .int .i64 (bt s (p + 3)), .int .i64 (two s (p + 4)), .int .i64 (two s (p + 6))]
/-- Those of the first n. -/
def sgVals (s : ByteArray) : Nat → List Value
  | 0 => []
  | n + 1 => sgVals s n ++ sgVal s (8 + 8 * (n : Int))
/-- The two numbers of the move at p. -/
def mvVal (s : ByteArray) (p : Int) : List Value := [.int .i64 (two s p), .int .i64 (two s (p + 2))]
/-- Those of the first n behind q. -/
def mvVals (s : ByteArray) (q : Int) : Nat → List Value
  | 0 => []
  | n + 1 => mvVals s q n ++ mvVal s (q + 4 * (n : Int))

/-- May two bytes at a place be written in one of the first n segments? -/
def movB (s : ByteArray) (at_ : Int) : Nat → Bool
  | 0 => false
  | n + 1 => movB s at_ n || (decide (3 ≤ bt s (8 + 8 * (n : Int) + 2)) && decide (bt s (8 + 8 * (n : Int)) * 32 ≤ at_) && decide (at_ + 2 ≤ (bt s (8 + 8 * (n : Int)) + bt s (8 + 8 * (n : Int) + 1)) * 32))

/-- Does a byte of code stand at a place in one of the first n segments? -/
def codeB (s : ByteArray) (at_ : Int) : Nat → Bool
  | 0 => false
  | n + 1 => codeB s at_ n || (decide (bt s (8 + 8 * (n : Int) + 2) = 1) && decide (bt s (8 + 8 * (n : Int)) * 32 ≤ at_) && decide (at_ < bt s (8 + 8 * (n : Int)) * 32 + two s (8 + 8 * (n : Int) + 6)))

/-- The first wrong place of so many moves from p on. -/
def movesBad (s : ByteArray) (n : Nat) : Nat → Int → Int → Option Int
  | 0, _, _ => .none
  | m + 1, p, last => if last ≤ two s p ∧ movB s (two s p) n = true then movesBad s n m (p + 4) (two s p + 2) else some p

/-- The first of the bytes from k on (of four) that is another one. -/
def magicAt (k : Int) : Int := if k = 0 then 72 else if k = 1 then 66 else if k = 2 then 82 else 49
def magicBad (s : ByteArray) : Nat → Int → Option Int
  | 0, _ => .none
  | n + 1, k => if k < (s.size : Int) ∧ bt s k = magicAt k then magicBad s n (k + 1) else some k

/-- What is wrong with the head. -/
def headBad (s : ByteArray) : Option Int :=
  match magicBad s 4 0 with
  | .some x => .some x
  | .none => if (s.size : Int) < 8 then some s.size else if bt s 6 < 1 ∨ 4 < bt s 6 then some 6 else if 4 < bt s 7 then some 7 else .none

/-- The first wrong place of an image. -/
def vetBad (s : ByteArray) : Option Int :=
  match headBad s with
  | .some x => .some x
  | .none =>
    if (s.size : Int) < 8 + 8 * bt s 6 + 4 * bt s 7 then some s.size
    else match segsBad s (8 + 8 * bt s 6 + 4 * bt s 7) (bt s 6).toNat 8 0 with
      | .some x => .some x
      | .none => match movesBad s (bt s 6).toNat (bt s 7).toNat (8 + 8 * bt s 6) 0 with
        | .some x => .some x
        | .none => if codeB s (two s 4) (bt s 6).toNat = true then .none else some 4

end Go.Proofs.YtmendnmmiabolaaDoor
