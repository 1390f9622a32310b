/- The model's draws for laws.FnNumbers: a number, a text with a byte, keys. -/
import Derived.Test.YtljpiamkihhieakDoorDrawKeys
import Derived.Test.YtljpiamkihhieakDoorSortRow
import Derived.Test.YtljpiamkihhieakDoorParts
namespace Go.Proofs.YtljpiamkihhieakDoor
open Go.RowKit

set_option maxHeartbeats 400000 in
/-- l1Pick out of a row of texts that lies apart from the cursor. -/
theorem l1Pick_any (k : Nat) (a : Option Addr) (n c : Nat) (zs : List Int) (b m cap : Nat) (ls : List ByteArray) (w : World) (hc : Cur w k a n c zs) (hr : RdS w (some ⟨b, 0, none⟩) m ls) (hm0 : 1 ≤ m) (hm1 : m ≤ 256) (hbk : b ≠ k) :
    Calls Tryd.prog 19 #[.pointer (some ⟨k, 0, none⟩), .slice (some ⟨b, 0, none⟩) m cap] w fun e w' => ∃ j : Nat, j < m ∧ e = .returned (.string (ls.getD j ByteArray.empty)) ∧ Cur w' k a n c zs ∧ w.grownBy w' (some k) := by
  have HC := hide hc
  have HR := hide hr
  clear hc hr
  go_enter Tryd.func19, Tryd.ntmps19
  go_wp2_with fail
  refine (l1Below_any k a n c zs (m : Int) w HC.out (by omega) (by omega)).mono ?_
  rintro e w1 ⟨x, rfl, hx0, hx1, hc1, hg1⟩
  obtain ⟨j, rfl⟩ := Int.eq_ofNat_of_zero_le hx0
  obtain ⟨b', off', e, hcell⟩ := (HR.out.grown hg1 hbk).2 j (by omega)
  cases e
  have HC1 := hide hc1
  have HG1 := hide hg1
  clear hc1 hg1
  rw [Nat.zero_add] at hcell
  generalize hv : ls.getD j ByteArray.empty = v at *
  have HV := hide hv
  clear hv
  go_wp2
  go_ret
  exact ⟨j, by omega, by rw [HV.out]; rfl, HC1.out, HG1.out⟩

theorem rdb_lt {w : World} {a : Option Addr} {n : Nat} {zs : List Int} (h : RdB w a n zs) (h0 : 0 < n) (x : Addr) (hx : a = some x) : x.block < w.heap.size := by
  obtain ⟨b, off, ha, hc, _⟩ := h.2 0 h0
  rw [hx] at ha
  cases ha
  exact World.block_lt_of_cell? w _ hc

set_option maxHeartbeats 400000 in
theorem drawKeys_any (a : Option Addr) (n c : Nat) (zs : List Int) (w : World) (hr : RdB w a n zs) (hn : n ≤ 1048576) :
    Calls Tryd.prog 11 #[.slice a n c] w fun e w' => ∃ (g cap : Nat) (ks : List Int), e = .returned (.slice (some ⟨g, 0, none⟩) ks.length cap) ∧ ks.length ≤ 9 ∧
      w'.ownsRow w.heap.size 3 1 (.slice (some ⟨g, 0, none⟩) ks.length cap) ks.length (ks.map (Value.int .i64)) ∧ Below w.heap.size w w' := by
  have HR := hide hr
  clear hr
  go_enter Tryd.func11, Tryd.ntmps11
  go_wp2_with fail
  refine (l1New_any a n c zs w HR.out hn (fun h0 => rdb_lt HR.out h0)).mono ?_
  rintro e w1 ⟨rfl, hc1, hb1⟩
  have HC := hide hc1
  have HB := hide hb1
  have hsz := hb1.size
  clear hc1 hb1
  go_wp2_with fail
  refine (l1Keys_any w.heap.size a n c zs w1 HC.out).mono ?_
  rintro e w2 ⟨g, cap, ks, rfl, hl, ho, hg⟩
  have HO := hide ho
  have HB2 := hide (HB.out.grown hg hsz (by intro k hk; cases hk; exact Nat.le_refl _))
  clear ho hg
  go_wp2
  go_ret
  exact ⟨g, cap, ks, rfl, hl, own_less HO.out hsz, HB2.out⟩

theorem six_bd : ∀ j, j < 6 → -9223372036854775808 ≤ ([0, 7, -12, 100000, 9223372036854775807, -9223372036854775808] : List Int).getD j 0 ∧ ([0, 7, -12, 100000, 9223372036854775807, -9223372036854775808] : List Int).getD j 0 ≤ 9223372036854775807 := by decide

set_option maxHeartbeats 400000 in
theorem drawDigits_any (a : Option Addr) (n c : Nat) (zs : List Int) (w : World) (hr : RdB w a n zs) (hn : n ≤ 1048576) :
    Calls Tryd.prog 5 #[.slice a n c] w fun e w' => ∃ x : Int, e = .returned (.int .i64 x) ∧ -9223372036854775808 ≤ x ∧ x ≤ 9223372036854775807 ∧ Below w.heap.size w w' := by
  have HR := hide hr
  clear hr
  go_enter Tryd.func5, Tryd.ntmps5
  go_wp2_with fail
  refine (l1New_any a n c zs w HR.out hn (fun h0 => rdb_lt HR.out h0)).mono ?_
  rintro e w1 ⟨rfl, hc1, hb1⟩
  have HC := hide hc1
  have HB := hide hb1
  have hsz := hb1.size
  have hlt : w.heap.size < w1.heap.size := by obtain ⟨_, _, _, _, h⟩ := hc1.cells; exact lt_of_block h
  clear hc1 hb1
  have hlit : Rd (w1.alloc (.cells #[.int .i64 0, .int .i64 7, .int .i64 (-12), .int .i64 100000, .int .i64 9223372036854775807, .int .i64 (-9223372036854775808)] 3)) (some ⟨w1.heap.size, 0, none⟩) 6 [0, 7, -12, 100000, 9223372036854775807, -9223372036854775808] := Rd.of_owns (base := w1.heap.size) (cap := 6) (World.ownsRow_lit w1 #[.int .i64 0, .int .i64 7, .int .i64 (-12), .int .i64 100000, .int .i64 9223372036854775807, .int .i64 (-9223372036854775808)] 6 (Nat.le_refl _) (by unfold maxLen; omega) rfl)
  go_wp2_with fail
  refine (l1PickInt_any w.heap.size a n c zs w1.heap.size 6 6 [0, 7, -12, 100000, 9223372036854775807, -9223372036854775808] _ (HC.out.mono ((Below.refl _ _).alloc (Nat.le_refl _) _)) hlit (by omega) (by omega) (by omega)).mono ?_
  rintro e w2 ⟨j, hj, rfl, -, hg⟩
  have hbd := six_bd j hj
  generalize [0, 7, -12, 100000, 9223372036854775807, -9223372036854775808].getD j 0 = x at *
  have HB2 := hide ((HB.out.alloc hsz _).grown hg (by simp; omega) (by intro k hk; cases hk; exact Nat.le_refl _))
  clear hg hlit
  go_wp2
  go_ret
  exact ⟨x, rfl, hbd.1, hbd.2, HB2.out⟩

def sixTexts : List ByteArray := [{ data := #[] }, { data := #[97] }, { data := #[97, 44, 98] }, { data := #[44] }, { data := #[97, 44, 44, 98, 44] }, { data := #[97, 47, 98, 44, 99, 47] }]
theorem six_texts : ∀ j, j < 6 → (sixTexts.getD j ByteArray.empty).size ≤ 6 := by decide

set_option maxHeartbeats 400000 in
theorem drawParts_any (a : Option Addr) (n c : Nat) (zs : List Int) (w : World) (hr : RdB w a n zs) (hn : n ≤ 1048576) :
    Calls Tryd.prog 9 #[.slice a n c] w fun e w' => ∃ (s : ByteArray) (b : UInt8), e = .returned (.tuple #[.string s, .int .u8 (b.toNat : Int)]) ∧ s.size ≤ 6 ∧ Below w.heap.size w w' := by
  have HR := hide hr
  clear hr
  go_enter Tryd.func9, Tryd.ntmps9
  go_wp2_with fail
  refine (l1New_any a n c zs w HR.out hn (fun h0 => rdb_lt HR.out h0)).mono ?_
  rintro e w1 ⟨rfl, hc1, hb1⟩
  have HC := hide hc1
  have HB := hide hb1
  have hsz := hb1.size
  have hlt : w.heap.size < w1.heap.size := by obtain ⟨_, _, _, _, h⟩ := hc1.cells; exact lt_of_block h
  clear hc1 hb1
  have hlit : RdS (w1.alloc (.cells #[.string { data := #[] }, .string { data := #[97] }, .string { data := #[97, 44, 98] }, .string { data := #[44] }, .string { data := #[97, 44, 44, 98, 44] }, .string { data := #[97, 47, 98, 44, 99, 47] }] 9)) (some ⟨w1.heap.size, 0, none⟩) 6 sixTexts := RdS.of_owns (base := w1.heap.size) (cap := 6) (World.ownsRow_lit w1 #[.string { data := #[] }, .string { data := #[97] }, .string { data := #[97, 44, 98] }, .string { data := #[44] }, .string { data := #[97, 44, 44, 98, 44] }, .string { data := #[97, 47, 98, 44, 99, 47] }] 6 (Nat.le_refl _) (by unfold maxLen; omega) rfl)
  go_wp2_with fail
  refine (l1Pick_any w.heap.size a n c zs w1.heap.size 6 6 sixTexts _ (HC.out.mono ((Below.refl _ _).alloc (Nat.le_refl _) _)) hlit (by omega) (by omega) (by omega)).mono ?_
  rintro e w2 ⟨j, hj, rfl, hc2, hg⟩
  have hs6 := six_texts j hj
  generalize sixTexts.getD j ByteArray.empty = s at *
  have HB2 := hide ((HB.out.alloc hsz _).grown hg (by simp; omega) (by intro k hk; cases hk; exact Nat.le_refl _))
  have hsz2 := hg.size
  simp at hsz2
  have HC2 := hide hc2
  clear hg hlit HC HB hc2
  have hlit : Rd (w2.alloc (.cells #[.int .i64 44, .int .i64 47] 3)) (some ⟨w2.heap.size, 0, none⟩) 2 [44, 47] := Rd.of_owns (base := w2.heap.size) (cap := 2) (World.ownsRow_lit w2 #[.int .i64 44, .int .i64 47] 2 (Nat.le_refl _) (by unfold maxLen; omega) rfl)
  go_wp2_with fail
  refine (l1PickInt_any w.heap.size a n c zs w2.heap.size 2 2 [44, 47] _ (HC2.out.mono ((Below.refl _ _).alloc (Nat.le_refl _) _)) hlit (by omega) (by omega) (by omega)).mono ?_
  rintro e w3 ⟨q, hq, rfl, -, hg⟩
  have HB3 := hide ((HB2.out.alloc (by omega) _).grown hg (by simp; omega) (by intro k hk; cases hk; exact Nat.le_refl _))
  clear hg hlit
  have hx : ([44, 47] : List Int).getD q 0 = 44 ∨ ([44, 47] : List Int).getD q 0 = 47 := by
    rcases (by omega : q = 0 ∨ q = 1) with rfl | rfl
    · exact Or.inl rfl
    · exact Or.inr rfl
  generalize ([44, 47] : List Int).getD q 0 = x at *
  rcases hx with rfl | rfl
  · go_wp2
    go_ret2
    exact ⟨s, 44, rfl, hs6, HB3.out⟩
  · go_wp2
    go_ret2
    exact ⟨s, 47, rfl, hs6, HB3.out⟩
end Go.Proofs.YtljpiamkihhieakDoor
