/- The model's Number and the program's, each at every text: the number that the text spells, or none. -/
import Derived.Test.YtljpiamkihhieamDoorDigits
import Derived.Test.YtljpiamkihhieamDoorNumberPlain
namespace Go.Proofs.YtljpiamkihhieamDoor
open Go.RowKit

theorem numOf_cut {l : List UInt8} (h : l.length < 1 ∨ 6 < l.length) : numOf l = none := by
  unfold numOf; rw [if_neg (by omega)]
theorem numOf_bad {l : List UInt8} (k : Nat) (b : UInt8) (hb : l[k]? = some b) (hd : b.toNat < 48 ∨ 57 < b.toNat) : numOf l = none := by
  cases h : numOf l with
  | none => rfl
  | some m =>
    obtain ⟨_, _, hf⟩ := numOf_some h
    obtain ⟨d, hd'⟩ := Lib.digit_of_decFrom l 0 m hf k b hb
    have := Lib.digitVal_eq hd'
    omega
theorem numOf_end {l : List UInt8} {m : Nat} (h1 : 1 ≤ l.length) (h6 : l.length ≤ 6) (hd : Lib.decFrom 0 l = some m) : numOf l = if Lib.decDigits m = l then some m else none := by
  unfold numOf; rw [if_pos ⟨h1, h6⟩, hd]

theorem ret_pair {a b : Int} {x y : Bool} (h : a = b) (h' : x = y) : Ending.returned (.tuple #[.int .i64 a, .bool x]) = .returned (.tuple #[.int .i64 b, .bool y]) := by rw [h, h']

theorem byte_at (s : ByteArray) (k : Nat) (h : k < s.size) : s.data.toList[k]? = some s[k] := by
  rw [List.getElem?_eq_getElem (by simpa using h)]; rfl

theorem str_eq_iff (s : ByteArray) (l : List UInt8) : (⟨l.toArray⟩ : ByteArray) = s ↔ l = s.data.toList := by
  constructor
  · intro h; rw [← h]
  · intro h; rw [h]

theorem size_list (s : ByteArray) : s.data.toList.length = s.size := by rw [Array.length_toList]; rfl

set_option maxHeartbeats 1600000 in
theorem specNumber_any (s : ByteArray) (w : World) (hs : s.size ≤ 1048576) :
    Calls Tryd.prog 7 #[.string s] w fun e w' => e = .returned (.tuple #[.int .i64 (numN s.data.toList), .bool (numB s.data.toList)]) ∧ Below w.heap.size w w' := by
  have hlen := size_list s
  by_cases hshort : s.size < 1
  · have hn := numOf_cut (l := s.data.toList) (by omega)
    have E1 : Hid (numN s.data.toList = 0) := numN_no hn
    have E2 : Hid (numB s.data.toList = false) := numB_no hn
    clear hn hlen
    go_enter Tryd.func7, Tryd.ntmps7
    go_wp2
    go_ret2
    exact ⟨ret_pair E1.out.symm E2.out.symm, Below.refl _ _⟩
  by_cases hlong : 6 < s.size
  · have hn := numOf_cut (l := s.data.toList) (by omega)
    have E1 : Hid (numN s.data.toList = 0) := numN_no hn
    have E2 : Hid (numB s.data.toList = false) := numB_no hn
    clear hn hlen
    go_enter Tryd.func7, Tryd.ntmps7
    go_wp2
    go_ret2
    exact ⟨ret_pair E1.out.symm E2.out.symm, Below.refl _ _⟩
  have HL : Hid (s.data.toList.length = s.size) := hlen
  clear hlen
  go_enter Tryd.func7, Tryd.ntmps7
  go_wp2
  go_loop [4, 5] (fun t i => ∃ k m : Nat, k ≤ s.size ∧ i = .int .i64 k ∧ t = .int .i64 m ∧ Lib.decFrom 0 (s.data.toList.take k) = some m) (fun _ i => s.size - (intOf i).toNat)
  case atStart => exact ⟨0, 0, Nat.zero_le _, rfl, rfl, rfl⟩
  case round =>
    obtain ⟨k, m, hk, rfl, rfl, hd⟩ := hrel
    have hm : m < 1000000 := by
      have h1 := Lib.decFrom_lt _ 0 _ hd
      have h2 : (s.data.toList.take k).length ≤ 6 := by rw [List.length_take]; omega
      have h3 : 10 ^ (s.data.toList.take k).length ≤ 10 ^ 6 := Nat.pow_le_pow_right (by omega) h2
      have : (10 : Nat) ^ 6 = 1000000 := by decide
      omega
    have HD : Hid (Lib.decFrom 0 (s.data.toList.take k) = some m) := hd
    clear hd
    by_cases hlt : k < s.size
    · have HB : Hid (s.data.toList[k]? = some s[k]) := byte_at s k hlt
      rcases (show s[k].toNat < 48 ∨ 57 < s[k].toNat ∨ (48 ≤ s[k].toNat ∧ s[k].toNat ≤ 57) from by omega) with hb | hb | ⟨hb, hb'⟩
      · have hn := numOf_bad k _ HB.out (Or.inl hb)
        have E1 : Hid (numN s.data.toList = 0) := numN_no hn
        have E2 : Hid (numB s.data.toList = false) := numB_no hn
        clear hn
        go_wp2
        go_ret2
        exact ⟨ret_pair E1.out.symm E2.out.symm, Below.refl _ _⟩
      · have hn := numOf_bad k _ HB.out (Or.inr hb)
        have E1 : Hid (numN s.data.toList = 0) := numN_no hn
        have E2 : Hid (numB s.data.toList = false) := numB_no hn
        clear hn
        go_wp2
        go_ret2
        exact ⟨ret_pair E1.out.symm E2.out.symm, Below.refl _ _⟩
      · have HN : Hid (Lib.decFrom 0 (s.data.toList.take (k + 1)) = some (m * 10 + (s[k].toNat - 48))) := Lib.decFrom_take _ k 0 m _ _ HD.out HB.out (by rw [Lib.digitVal, if_pos ⟨hb, hb'⟩])
        go_wp2
        go_round
        case rel => exact ⟨k + 1, m * 10 + (s[k].toNat - 48), by omega, by go_num, by go_num, HN.out⟩
        case measure => simp [intOf]; omega
    · have hkk : k = s.size := by omega
      have hd := HD.out
      rw [List.take_of_length_le (by rw [HL.out]; omega)] at hd
      have he := numOf_end (by rw [HL.out]; omega) (by rw [HL.out]; omega) hd
      have ei : Lib.itoa (m : Int) = Lib.decDigits m := by rw [Lib.itoa, if_neg (by omega), Int.toNat_natCast]
      have HE : Hid (Lib.itoa (m : Int) = Lib.decDigits m) := ei
      clear ei hd HD hkk
      go_wp2_with fail
      refine (specDigits_any (m : Int) w (by omega) (by omega)).mono ?_
      rintro e w1 ⟨rfl, hb1⟩
      rw [HE.out]
      by_cases hq : Lib.decDigits m = s.data.toList
      · rw [if_pos hq] at he
        have E1 : Hid (numN s.data.toList = m) := numN_of he
        have E2 : Hid (numB s.data.toList = true) := numB_of he
        have hs0 : (⟨(Lib.decDigits m).toArray⟩ : ByteArray) = s := (str_eq_iff _ _).2 hq
        rw [hs0]
        clear he hq hs0
        go_wp2
        go_ret2
        exact ⟨ret_pair E1.out.symm E2.out.symm, hb1⟩
      · rw [if_neg hq] at he
        have E1 : Hid (numN s.data.toList = 0) := numN_no he
        have E2 : Hid (numB s.data.toList = false) := numB_no he
        have hne : ((⟨(Lib.decDigits m).toArray⟩ : ByteArray).toList == s.toList) = false := by
          rw [ByteArray.toList_eq, ByteArray.toList_eq, beq_eq_false_iff_ne]; exact hq
        generalize (⟨(Lib.decDigits m).toArray⟩ : ByteArray) = t at *
        clear he hq
        go_wp2
        go_ret2
        exact ⟨ret_pair E1.out.symm E2.out.symm, hb1⟩

/-- What the panic of mustNumber bears. -/
def noNum : PanicEntry := { v := .iface 9 (.string ⟨#[110, 111, 32, 110, 117, 109, 98, 101, 114]⟩), recovered := false }
end Go.Proofs.YtljpiamkihhieamDoor
