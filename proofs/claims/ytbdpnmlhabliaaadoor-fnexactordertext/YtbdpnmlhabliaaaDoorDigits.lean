/- The decimal text: the model's Digits at every int. -/
import Derived.Test.YtbdpnmlhabliaaaDoorDecConv
import Derived.WalkKit
import Derived.ProofKit
import Derived.Below
import Derived.WalkLawsBesides
import Derived.Lib.ItoaNum
import Derived.Outline
namespace Go.Proofs.YtbdpnmlhabliaaaDoor
open Go.RowKit
set_option maxRecDepth 20000

set_option maxHeartbeats 800000 in
theorem digits_pos (n : Nat) (w : World) (h0 : n ≠ 0) (h1 : (n : Int) ≤ 9223372036854775807) :
    Calls Tryd.prog 61 #[.int .i64 n] w fun e w' => e = .returned (.string ⟨(Lib.decDigits n).toArray⟩) ∧ Below w.heap.size w w' := by
  have hz : ((n : Int) == 0) = false := by simp; omega
  have hs : ¬ (n : Int) < 0 := by omega
  have HD : Hid (pre n = Lib.decDigits n) := by unfold pre; rw [Hid, if_neg h0]
  have HN : Hid ((pre n).length ≤ 19) := pre_length 19 n (by omega)
  go_enter Tryd.func61, Tryd.ntmps61
  go_wp2
  go_loopw [0, 4, 5] (fun m o _ wr => ∃ (u : Nat) (s : ByteArray), u ≤ n ∧ m = .int .i64 u ∧ o = .string s ∧ pre u ++ s.data.toList = pre n ∧ Below w.heap.size w wr) (fun m _ _ _ => (intOf m).toNat)
  case atStart => exact ⟨n, ⟨#[]⟩, Nat.le_refl _, rfl, rfl, List.append_nil _, Below.refl _ _⟩
  case round =>
    obtain ⟨u, s, hu, rfl, rfl, hl, hbel⟩ := hrel
    have hsz : s.size ≤ 19 := by
      have := congrArg List.length hl
      have e : s.size = s.data.toList.length := by rw [Array.length_toList]; rfl
      have := HN.out
      rw [List.length_append] at *
      omega
    have HL : Hid (pre u ++ s.data.toList = pre n) := hl
    clear hl
    by_cases hne : u = 0
    · subst hne
      go_wp2
      go_ret
      refine ⟨?_, hbel⟩
      have := HL.out
      rw [HD.out] at this
      simp [pre] at this
      exact ret_str (by rw [← this])
    · have hnb : ((u : Int) != 0) = true := by simp; omega
      have hcv := conv_one wr (48 + u % 10) (by omega)
      have hcv' : (convert 22 9 (Value.slice (some ⟨wr.heap.size, 0, none⟩) 1 1)).run Tryd.prog (wr.alloc (.cells #[.int .u8 (48 + (u : Int) % 10)] 5)) = .ok (.string ⟨#[UInt8.ofNat (48 + u % 10)]⟩) (wr.alloc (.cells #[.int .u8 (48 + (u : Int) % 10)] 5)) := by
        simpa using hcv
      clear hcv
      have HS : Hid (pre (u / 10) ++ ({ data := #[48 + UInt8.ofNat (u % 10)] } ++ s : ByteArray).data.toList = pre n) := dig_next u s _ hne HL.out
      have hbw : Below w.heap.size w (wr.alloc (.cells #[.int .u8 (48 + (u : Int) % 10)] 5)) := hbel.alloc hbel.size _
      go_wp2
      go_roundw
      case rel => exact ⟨u / 10, _, by omega, by go_num, rfl, HS.out, hbw⟩
      case measure => simp [intOf]; omega

theorem neg_mod (u : Nat) : (-(u : Int)).tmod 10 = -((u : Int) % 10) := by
  rw [Int.neg_tmod, Int.tmod_eq_emod_of_nonneg (by omega)]
theorem neg_div (u : Nat) : (-(u : Int)).tdiv 10 = -((u / 10 : Nat) : Int) := by
  rw [Int.neg_tdiv, Int.tdiv_eq_ediv_of_nonneg (by omega)]
  omega

set_option maxHeartbeats 800000 in
theorem digits_neg (n : Nat) (w : World) (h0 : n ≠ 0) (h1 : (n : Int) ≤ 9223372036854775808) :
    Calls Tryd.prog 61 #[.int .i64 (-(n : Int))] w fun e w' => e = .returned (.string ⟨(45 :: Lib.decDigits n).toArray⟩) ∧ Below w.heap.size w w' := by
  have hz : ((-(n : Int)) == 0) = false := by simp; omega
  have hs : (-(n : Int)) < 0 := by omega
  have HD : Hid (pre n = Lib.decDigits n) := by unfold pre; rw [Hid, if_neg h0]
  have HN : Hid ((pre n).length ≤ 19) := pre_length 19 n (by omega)
  go_enter Tryd.func61, Tryd.ntmps61
  go_wp2
  go_loopw [0, 4, 5] (fun m o _ wr => ∃ (u : Nat) (s : ByteArray), u ≤ n ∧ m = .int .i64 (-(u : Int)) ∧ o = .string s ∧ pre u ++ s.data.toList = pre n ∧ Below w.heap.size w wr) (fun m _ _ _ => (-(intOf m)).toNat)
  case atStart => exact ⟨n, ⟨#[]⟩, Nat.le_refl _, rfl, rfl, List.append_nil _, Below.refl _ _⟩
  case round =>
    obtain ⟨u, s, hu, rfl, rfl, hl, hbel⟩ := hrel
    have hsz : s.size ≤ 19 := by
      have := congrArg List.length hl
      have e : s.size = s.data.toList.length := by rw [Array.length_toList]; rfl
      have := HN.out
      rw [List.length_append] at *
      omega
    have HL : Hid (pre u ++ s.data.toList = pre n) := hl
    clear hl
    by_cases hne : u = 0
    · subst hne
      go_wp2
      go_ret
      refine ⟨?_, hbel⟩
      have := HL.out
      rw [HD.out] at this
      simp [pre] at this
      exact ret_str (by rw [← this]; apply ByteArray.ext; simp)
    · have hnb : ((-(u : Int)) != 0) = true := by simp; omega
      have hd := neg_div u
      rcases (show u % 10 = 0 ∨ 0 < u % 10 from by omega) with hk | hk
      · have hm : (-(u : Int)).tmod 10 = 0 := by rw [neg_mod]; omega
        have hcv : (convert 22 9 (Value.slice (some ⟨wr.heap.size, 0, none⟩) 1 1)).run Tryd.prog (wr.alloc (.cells #[.int .u8 48] 5)) = .ok (.string ⟨#[48]⟩) (wr.alloc (.cells #[.int .u8 48] 5)) := by
          simpa using conv_one wr 48 (by omega)
        have HS : Hid (pre (u / 10) ++ ({ data := #[48] } ++ s : ByteArray).data.toList = pre n) := by
          have := dig_next u s _ hne HL.out
          rw [hk] at this
          simpa [Hid] using this
        have hbw : Below w.heap.size w (wr.alloc (.cells #[.int .u8 48] 5)) := hbel.alloc hbel.size _
        clear hk
        go_wp2
        go_roundw
        case rel => exact ⟨u / 10, _, by omega, by go_num, rfl, HS.out, hbw⟩
        case measure => simp [intOf]; omega
      · have hm := neg_mod u
        have hkz : 0 < (u : Int) % 10 := by omega
        clear hk
        have hcv := conv_one wr (48 + u % 10) (by omega)
        have hcv' : (convert 22 9 (Value.slice (some ⟨wr.heap.size, 0, none⟩) 1 1)).run Tryd.prog (wr.alloc (.cells #[.int .u8 (48 + (u : Int) % 10)] 5)) = .ok (.string ⟨#[UInt8.ofNat (48 + u % 10)]⟩) (wr.alloc (.cells #[.int .u8 (48 + (u : Int) % 10)] 5)) := by
          simpa using hcv
        clear hcv
        have HS : Hid (pre (u / 10) ++ ({ data := #[48 + UInt8.ofNat (u % 10)] } ++ s : ByteArray).data.toList = pre n) := dig_next u s _ hne HL.out
        have hbw : Below w.heap.size w (wr.alloc (.cells #[.int .u8 (48 + (u : Int) % 10)] 5)) := hbel.alloc hbel.size _
        go_wp2
        go_roundw
        case rel => exact ⟨u / 10, _, by omega, by go_num, rfl, HS.out, hbw⟩
        case measure => simp [intOf]; omega

/-- spec.Digits at every int. -/
theorem specDigits_any (n : Int) (w : World) (h0 : -9223372036854775808 ≤ n) (h1 : n ≤ 9223372036854775807) :
    Calls Tryd.prog 61 #[.int .i64 n] w fun e w' => e = .returned (.string ⟨(Lib.itoa n).toArray⟩) ∧ Below w.heap.size w w' := by
  rcases (show n = 0 ∨ 0 < n ∨ n < 0 from by omega) with hz | hp | hn
  · subst hz
    have e : Lib.itoa 0 = [48] := by rw [Lib.itoa, if_neg (by omega), show (0 : Int).toNat = 0 from rfl, Lib.decDigits_one (by omega)]; rfl
    go_enter Tryd.func61, Tryd.ntmps61
    go_wp2
    go_ret
    exact ⟨ret_str (by rw [e]), Below.refl _ _⟩
  · obtain ⟨u, rfl⟩ := Int.eq_ofNat_of_zero_le (Int.le_of_lt hp)
    have e : Lib.itoa (u : Int) = Lib.decDigits u := by rw [Lib.itoa, if_neg (by omega), Int.toNat_natCast]
    rw [e]
    exact digits_pos u w (by omega) h1
  · obtain ⟨u, hu⟩ := Int.eq_ofNat_of_zero_le (show 0 ≤ -n by omega)
    have en : n = -(u : Int) := by omega
    subst en
    have e : Lib.itoa (-(u : Int)) = 45 :: Lib.decDigits u := by rw [Lib.itoa, if_pos (by omega)]; simp
    rw [e]
    exact digits_neg u w (by omega) (by omega)
end Go.Proofs.YtbdpnmlhabliaaaDoor
