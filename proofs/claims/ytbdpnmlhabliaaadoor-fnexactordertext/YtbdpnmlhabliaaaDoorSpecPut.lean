/- The model's line of an order's text. -/
import Derived.Test.YtbdpnmlhabliaaaDoorOrderPlain
import Derived.Test.YtbdpnmlhabliaaaDoorDigits
import Derived.Deep.RegionWith
import Derived.Deep.DeepMust
namespace Go.Proofs.YtbdpnmlhabliaaaDoor
open Go.RowKit
set_option linter.unusedVariables false

theorem numB_pos {k : Nat} (h : k ≠ 0) (n : Int) : numB k n = inB n 0 999999 := by simp [numB, h]
theorem numW_pos {k : Nat} (h : k ≠ 0) (n : Int) : numW k n = Lib.itoa n := by simp [numW, h]
theorem all_take_step (xs : List Int) (f : Int → Bool) (k : Nat) (h : k < xs.length) : (xs.take (k + 1)).all f = ((xs.take k).all f && f (xs.getD k 0)) := by
  rw [List.take_succ_eq_append_getElem h, List.all_append]; simp [List.getD_eq_getElem?_getD, h]
theorem all_out (xs : List Int) (f : Int → Bool) (k : Nat) (h : k < xs.length) (hf : f (xs.getD k 0) = false) : xs.all f = false := by
  rw [Bool.eq_false_iff]
  intro hc
  have hm : xs.getD k 0 ∈ xs := by
    rw [List.getD_eq_getElem?_getD, List.getElem?_eq_getElem h]
    exact List.getElem_mem _
  have := List.all_eq_true.1 hc _ hm
  rw [hf] at this
  cases this
theorem tailT_step (k0 : Nat) (ns : List Int) (k : Nat) (h : k < ns.length) : tailT k0 (ns.take (k + 1)) = tailT k0 (ns.take k) ++ 32 :: numW k0 (ns.getD k 0) := by
  rw [List.take_succ_eq_append_getElem h, tailT, List.flatMap_append]; simp [tailT, List.getD_eq_getElem?_getD, h]
theorem tuple_sb {a b : ByteArray} {p q : Bool} (h : a = b) (h' : p = q) : Ending.returned (.tuple #[.string a, .bool p]) = .returned (.tuple #[.string b, .bool q]) := by rw [h, h']
/-- What a line's maker answers. -/
def putE (k : Nat) (ns : List Int) : Ending := .returned (.tuple #[.string ⟨(if lineB k ns then lineT k ns else []).toArray⟩, .bool (lineB k ns)])
theorem putE_no {k : Nat} {ns : List Int} (h : lineB k ns = false) : putE k ns = .returned (.tuple #[.string ⟨#[]⟩, .bool false]) := by simp [putE, h]
theorem putE_yes {k : Nat} {ns : List Int} (h : lineB k ns = true) : putE k ns = .returned (.tuple #[.string ⟨(lineT k ns).toArray⟩, .bool true]) := by simp [putE, h]
theorem bytes_of {s : ByteArray} {l : List UInt8} (h : s.data.toList = l) : s = ⟨l.toArray⟩ := by
  apply ByteArray.ext; rw [← h]
theorem size_of {s : ByteArray} : s.size = s.data.toList.length := by rw [Array.length_toList]; rfl

set_option maxHeartbeats 1000000 in
theorem l4Put_any (k0 : Nat) (hk0 : k0 ≠ 0) (a : Option Addr) (n c : Nat) (ns : List Int) (w : World) (hr : Rd w a n ns) (hn : n ≤ 7) :
    Calls Tryd.prog 30 #[.string ⟨(kindWord k0).toArray⟩, .slice a n c] w fun e w' =>
      e = putE k0 ns ∧ Below w.heap.size w w' := by
  have hkw := kindWord_length k0
  go_enter Tryd.func30, Tryd.ntmps30
  go_wp2
  go_loopw [6, 7] (fun o i wr => ∃ (k : Nat) (s : ByteArray), k ≤ n ∧ i = .int .i64 k ∧ o = .string s ∧ s.data.toList = kindWord k0 ++ tailT k0 (ns.take k) ∧ (ns.take k).all (numB k0) = true ∧ Below w.heap.size w wr) (fun _ i _ => n - (intOf i).toNat)
  case atStart => exact ⟨0, ⟨(kindWord k0).toArray⟩, Nat.zero_le _, rfl, rfl, by simp [tailT], rfl, Below.refl _ _⟩
  case round =>
    obtain ⟨k, s, hk, rfl, rfl, hs, hall, hbel⟩ := hrel
    have hsz : s.size ≤ 160 := by
      rw [size_of, hs, List.length_append]
      have := tailT_length k0 (ns.take k) (lineB_range hall)
      have : (ns.take k).length ≤ k := List.length_take_le _ _
      omega
    have HS := hide hs
    have HA := hide hall
    have HB := hide hbel
    clear hs hall hbel
    by_cases hlt : k < n
    · obtain ⟨b, off, rfl, hc⟩ := hr.2 k hlt
      have hc1 : wr.cell? ⟨b, off + k, none⟩ = some (.int .i64 (ns.getD k 0)) := ((unhide HB).cell (World.block_lt_of_cell? w _ hc)).trans hc
      have hlk : k < ns.length := by rw [hr.1]; exact hlt
      have HT := hide (tailT_step k0 ns k hlk)
      have HN := hide (all_take_step ns (numB k0) k hlk)
      have HO := hide (all_out ns (numB k0) k hlk)
      have HP := hide (numB_pos hk0 (ns.getD k 0))
      have HW := hide (numW_pos hk0 (ns.getD k 0))
      generalize ns.getD k 0 = x at hc1 HT HN HO HP HW
      clear hc
      cases hx : inB x 0 999999
      · have hnb : lineB k0 ns = false := unhide HO (by rw [unhide HP]; exact hx)
        have HNB := hide hnb
        clear hnb
        go_wp2_with ((go_at_call 28; refine (l1In_any _ _ _ _).mono ?_; rintro e w' ⟨rfl, rfl⟩; rw [hx]))
        go_ret2
        exact ⟨(putE_no (unhide HNB)).symm, unhide HB⟩
      · have hxr := inB_iff.1 hx
        have hil := itoa_length x (by omega)
        have hdz : (⟨(Lib.itoa x).toArray⟩ : ByteArray).size ≤ 20 := by simpa [ByteArray.size] using hil
        go_wp2_with (first
          | (go_at_call 28; refine (l1In_any _ _ _ _).mono ?_; rintro e w' ⟨rfl, rfl⟩; rw [hx])
          | (go_at_call 61; refine (specDigits_any x _ (by omega) (by omega)).mono ?_; rintro e w1 ⟨rfl, hb1⟩))
        go_roundw
        case rel => exact ⟨k + 1, _, by omega, by go_num, rfl, by rw [unhide HT, unhide HW]; simp [unhide HS], by rw [unhide HN, unhide HA, unhide HP, hx]; rfl, (unhide HB).trans (hb1.mono (unhide HB).size)⟩
        case measure => simp [intOf]; omega
    · have hkn : k = n := by omega
      subst hkn
      have ht : ns.take k = ns := List.take_of_length_le (by rw [hr.1]; omega)
      have hl : lineB k0 ns = true := by have := unhide HA; rw [ht] at this; exact this
      have HL := hide hl
      clear hl
      go_wp2
      go_ret2
      refine ⟨?_, unhide HB⟩
      rw [putE_yes (unhide HL)]
      refine tuple_sb (bytes_of ?_) rfl
      have := unhide HS
      rw [ht] at this
      simp [lineT, this]
end Go.Proofs.YtbdpnmlhabliaaaDoor
