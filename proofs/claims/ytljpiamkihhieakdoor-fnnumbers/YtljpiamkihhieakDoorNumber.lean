/- The model's Number and the program's, each at every text: the number that the text spells, or none. -/
import Derived.Test.YtljpiamkihhieakDoorDigits
import Derived.Test.YtljpiamkihhieakDoorNumberPlain
namespace Go.Proofs.YtljpiamkihhieakDoor
open Go.RowKit

theorem numOf_cut {l : List UInt8} (h : l.length < 1 ∨ 6 < l.length) : numOf l = none := by
  unfold numOf; rw [if_neg (by omega)]
theorem numOf_bad {l : List UInt8} (k : Nat) (b : UInt8) (hb : l[k]? = some b) (hd : b.toNat < 48 ∨ 57 < b.toNat) : numOf l = none := by
  cases h : numOf l with
  | none => rfl
  | some m =>
    obtain ⟨_, _, hf⟩ := numOf_some h
    obtain ⟨d, hd'⟩ := Lib.digit_of_decFrom l 0 m hf k b hb
    have := Lib.digitVal_eq hd'
    omega
theorem numOf_end {l : List UInt8} {m : Nat} (h1 : 1 ≤ l.length) (h6 : l.length ≤ 6) (hd : Lib.decFrom 0 l = some m) : numOf l = if Lib.decDigits m = l then some m else none := by
  unfold numOf; rw [if_pos ⟨h1, h6⟩, hd]

theorem ret_pair {a b : Int} {x y : Bool} (h : a = b) (h' : x = y) : Ending.returned (.tuple #[.int .i64 a, .bool x]) = .returned (.tuple #[.int .i64 b, .bool y]) := by rw [h, h']

theorem str_eq_iff (s : ByteArray) (l : List UInt8) : (⟨l.toArray⟩ : ByteArray) = s ↔ l = s.data.toList := by
  constructor
  · intro h; rw [← h]
  · intro h; rw [h]

theorem size_list (s : ByteArray) : s.data.toList.length = s.size := by rw [Array.length_toList]; rfl

/-- What the panic of mustNumber bears. -/
def noNum : PanicEntry := { v := .iface 9 (.string ⟨#[110, 111, 32, 110, 117, 109, 98, 101, 114]⟩), recovered := false }
end Go.Proofs.YtljpiamkihhieakDoor
