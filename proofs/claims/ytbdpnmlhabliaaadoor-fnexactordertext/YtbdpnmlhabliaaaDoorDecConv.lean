/- Small facts on decimal digits and on one byte as a text. -/
import Derived.Test.YtbdpnmlhabliaaaDoorRd
import Derived.Lib.ItoaNum
namespace Go.Proofs.YtbdpnmlhabliaaaDoor
open Go.RowKit

theorem ret_str {a b : ByteArray} (h : a = b) : Ending.returned (.string a) = .returned (.string b) := by rw [h]

def pre (u : Nat) : List UInt8 := if u = 0 then [] else Lib.decDigits u

theorem pre_step (u : Nat) (h : u ≠ 0) : pre u = pre (u / 10) ++ [UInt8.ofNat (48 + u % 10)] := by
  unfold pre
  rw [if_neg h, Lib.decDigits]
  by_cases h1 : u < 10
  · rw [dif_pos h1, if_pos (by omega), Nat.mod_eq_of_lt h1, List.nil_append]
  · rw [dif_neg h1, if_neg (by omega)]

theorem pre_length (k u : Nat) (h : u < 10 ^ k) : (pre u).length ≤ k := by
  induction k generalizing u with
  | zero => have : u = 0 := by simpa using h
            subst this; simp [pre]
  | succ k ih =>
    by_cases hu : u = 0
    · subst hu; simp [pre]
    · rw [pre_step u hu, List.length_append]
      have := ih (u / 10) (by rw [Nat.pow_succ] at h; omega)
      simp only [List.length_singleton]
      omega

theorem dig_next (u : Nat) (s : ByteArray) (r : List UInt8) (h : u ≠ 0) (hl : pre u ++ s.data.toList = r) : pre (u / 10) ++ ({ data := #[48 + UInt8.ofNat (u % 10)] } ++ s : ByteArray).data.toList = r := by
  rw [pre_step u h] at hl
  rw [← hl, ByteArray.data_append]
  simp

theorem conv_one (W : World) (c : Nat) (h1 : c ≤ 255) :
    (convert 22 9 (Value.slice (some ⟨W.heap.size, 0, none⟩) 1 1)).run Tryd.prog (W.alloc (.cells #[.int .u8 (c : Int)] 5)) = .ok (.string ⟨#[UInt8.ofNat c]⟩) (W.alloc (.cells #[.int .u8 (c : Int)] 5)) := by
  have h := run_convert_bytes_back (P := Tryd.prog) (W.alloc (.cells #[.int .u8 (c : Int)] 5)) 22 9 5 ⟨W.heap.size, 0, none⟩ 1 [UInt8.ofNat c] Tryd.underlying22 Tryd.underlying5 Tryd.underlying9 (by
    intro j hj
    have : j = 0 := by simpa using hj
    subst this
    simp [Addr.add]
    omega)
  simpa using h

theorem byte_at (s : ByteArray) (k : Nat) (h : k < s.size) : s.data.toList[k]? = some s[k] := by
  rw [List.getElem?_eq_getElem (by simpa using h)]; rfl
end Go.Proofs.YtbdpnmlhabliaaaDoor
