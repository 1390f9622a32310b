/- The model's draw of keys: at most nine numbers, whatever the bytes. -/
import Derived.Test.YtljpiamkihhieakDoorDraw
import Derived.WalkSpells
namespace Go.Proofs.YtljpiamkihhieakDoor
open Go.RowKit

theorem app_key {w wr w1 : World} {base g cap n : Nat} {v' : Value} {ks : List Int} {x : Int} {t : TypeId} (hn : ks.length = n)
    (hown : wr.ownsRow base 3 1 (.slice (some ⟨g, 0, none⟩) n cap) n (ks.map (Value.int .i64))) (hbase : w.heap.size ≤ base) {row : Option Nat} (hgb : w.grownBy wr row)
    (h1 : w1.ownsRow base 3 1 v' (n + 1) (ks.map (Value.int .i64) ++ [.int .i64 x])) (h2 : (wr.alloc (.cells #[.int .i64 x] t)).grownBy w1 (Value.slice (some ⟨g, 0, none⟩) n cap).ownBlock)
    (h3 : v' = .slice none 0 0 ↔ Value.slice (some ⟨g, 0, none⟩) n cap = .slice none 0 0 ∧ 1 = 0) :
    ∃ g' cap', v' = .slice (some ⟨g', 0, none⟩) (ks ++ [x]).length cap' ∧ w1.ownsRow base 3 1 (.slice (some ⟨g', 0, none⟩) (ks ++ [x]).length cap') (ks ++ [x]).length ((ks ++ [x]).map (Value.int .i64)) ∧ w.grownBy w1 row ∧ (∃ gg, base ≤ gg ∧ wr.grownBy w1 (some gg)) := by
  have hne : ¬ v' = .slice none 0 0 := fun h => by have := (h3.1 h).2; omega
  obtain ⟨g', cap', rfl⟩ := own_shape h1 hne
  have hl : (ks ++ [x]).length = n + 1 := by simp [hn]
  have hgb' := own_base hown
  have h2' : (wr.alloc (.cells #[.int .i64 x] t)).grownBy w1 (some g) := h2
  have h4 : wr.grownBy w1 (some g) := gb_new (World.grownBy_alloc wr _ (some g)) h2' |> fun h => gb_same (World.grownBy_alloc wr _ (some g)) h2'
  refine ⟨g', cap', by rw [hl], ?_, ?_, g, hgb', h4⟩
  · rw [hl]; simpa using h1
  · exact gb_new hgb h4 (by omega)

theorem ha_lt {w w' : World} {k : Nat} {a : Option Addr} {n c : Nat} {zs : List Int} {row : Option Nat} (h : Cur w k a n c zs) (_hg : w.grownBy w' row) (hn : 0 < n) (x : Addr) (hx : a = some x) : x.block < w.heap.size := by
  obtain ⟨b, off, ha, hc, _⟩ := h.bytes.2 0 hn
  rw [hx] at ha
  cases ha
  exact World.block_lt_of_cell? w _ hc

set_option maxRecDepth 100000 in
set_option maxHeartbeats 3200000 in
theorem l1Keys_any (k : Nat) (a : Option Addr) (n c : Nat) (zs : List Int) (w : World) (hc : Cur w k a n c zs) :
    Calls Tryd.prog 21 #[.pointer (some ⟨k, 0, none⟩)] w fun e w' => ∃ (g cap : Nat) (ks : List Int), e = .returned (.slice (some ⟨g, 0, none⟩) ks.length cap) ∧ ks.length ≤ 9 ∧
      w'.ownsRow w.heap.size 3 1 (.slice (some ⟨g, 0, none⟩) ks.length cap) ks.length (ks.map (Value.int .i64)) ∧ w.grownBy w' (some k) := by
  obtain ⟨i0, hi, hz0, hz1, hz2⟩ := info_parts Tryd.infoInt
  have hkw : k < w.heap.size := by obtain ⟨_, _, _, _, h⟩ := hc.cells; exact lt_of_block h
  have hown0 : (w.alloc (.cells #[] 3)).ownsRow w.heap.size 3 1 (.slice (some ⟨w.heap.size, 0, none⟩) 0 0) 0 [] := World.ownsRow_lit w #[] 0 (Nat.le_refl _) (Nat.zero_le _) rfl
  have HO0 := hide hown0
  have HC0 := hide (hc.mono ((Below.refl _ _).alloc (Nat.le_refl _) (.cells #[] 3)))
  have HC0B := hide hc
  have HG0 := hide (World.grownBy_alloc w (.cells #[] 3) (some k))
  clear hown0 hc
  go_enter Tryd.func21, Tryd.ntmps21
  go_wp2_with fail
  refine (l1Below_any k a n c zs 9 _ HC0.out (by omega) (by omega)).mono ?_
  rintro e w1 ⟨m, rfl, hm0, hm1, hc1, hg1⟩
  obtain ⟨mm, rfl⟩ := Int.eq_ofNat_of_zero_le hm0
  have HC1 := hide hc1
  have HG1 := hide (gb_same HG0.out hg1)
  have HO1 := hide (HO0.out.kept hg1 (Or.inr (by simp [Value.ownBlock]; omega)))
  clear hc1 hg1 HO0 HC0 HG0
  go_wp2
  go_loopw [3, 5] (fun o iv wr => ∃ (j g cap : Nat) (ks : List Int), j ≤ mm ∧ ks.length = j ∧ iv = .int .i64 (j : Int) ∧ o = .slice (some ⟨g, 0, none⟩) j cap ∧ wr.ownsRow w.heap.size 3 1 (.slice (some ⟨g, 0, none⟩) j cap) j (ks.map (Value.int .i64)) ∧ Cur wr k a n c zs ∧ w.grownBy wr (some k)) (fun _ iv _ => mm - (intOf iv).toNat)
  case atStart => exact ⟨0, w.heap.size, 0, [], Nat.zero_le _, rfl, rfl, rfl, HO1.out, HC1.out, HG1.out⟩
  case round =>
    clear HO1 HC1 HG1
    obtain ⟨j, g, cap, ks, hj, hl, rfl, rfl, how, hcur, hgb⟩ := hrel
    have HL := hide hl
    have HW := hide how
    have HC := hide hcur
    have HG := hide hgb
    have hsz := hgb.size
    clear hl how hcur hgb
    by_cases hlt : j < mm
    · have t1 : (j : Int) < (mm : Int) := by omega
      have hlit : Rd (wr.alloc (.cells #[.int .i64 0, .int .i64 1, .int .i64 2, .int .i64 3, .int .i64 7, .int .i64 (-5), .int .i64 1000000000] 3)) (some ⟨wr.heap.size, 0, none⟩) 7 [0, 1, 2, 3, 7, -5, 1000000000] := Rd.of_owns (base := wr.heap.size) (cap := 7) (World.ownsRow_lit wr #[.int .i64 0, .int .i64 1, .int .i64 2, .int .i64 3, .int .i64 7, .int .i64 (-5), .int .i64 1000000000] 7 (Nat.le_refl _) (by unfold maxLen; omega) rfl)
      go_wp2_with fail
      refine (l1PickInt_any k a n c zs wr.heap.size 7 7 [0, 1, 2, 3, 7, -5, 1000000000] _ (HC.out.mono ((Below.refl _ _).alloc (Nat.le_refl _) _)) hlit (by omega) (by omega) (by omega)).mono ?_
      generalize [0, 1, 2, 3, 7, -5, 1000000000] = ls
      rintro e w2 ⟨q, hq, rfl, hc2, hg2⟩
      generalize ls.getD q 0 = x
      have HW2 := hide ((HW.out.alloc _).kept hg2 (Or.inr (by have := own_base HW.out; simp [Value.ownBlock]; omega)))
      have HG2 := hide (gb_same (gb_same HG.out (World.grownBy_alloc wr _ (some k))) hg2)
      have HC2 := hide hc2
      have hsz2 := HG2.out.size
      have hkk := own_base HW2.out
      clear hc2 hg2 hlit HW HC HG
      go_wp2_with (first
        | (at_builtin; refine wpList_append_own _ rfl _ _ 32 rfl w.heap.size 3 i0 (.int .i64 0) 1 8 Tryd.underlying32 hi hz0 hz1 hz2 rfl (by decide) (.slice (some ⟨g, 0, none⟩) j cap) j (ks.map (Value.int .i64)) rfl (HW2.out.alloc _) ⟨w2.heap.size, 0, none⟩ 1 1 [.int .i64 x] rfl rfl (cell_one_new _ _ _) (by simp [Value.oneCell']) (by unfold maxLen; omega) (by omega) (by simp; omega) ?_; intro v' w3 h1 h2 h3)
        | go_in)
      obtain ⟨g', cap', hv, ho, hgn, gg, hgg, hg3⟩ := app_key HL.out HW2.out (Nat.le_refl _) HG2.out h1 h2 h3
      have HC3 := hide (HC2.out.grown hg3 (by omega) (fun hn x hx => by have := ha_lt HC0B.out HG2.out hn x hx; omega))
      have hlen : (ks ++ [x]).length = j + 1 := by simp [HL.out]
      rw [hlen] at hv ho
      clear h1 h2 h3
      go_roundw
      case rel => exact ⟨j + 1, g', cap', ks ++ [x], by omega, hlen, by go_num, hv, ho, HC3.out, hgn⟩
      case measure => simp [intOf]; omega
    · have t1 : ¬ (j : Int) < (mm : Int) := by omega
      go_wp2_with fail
      refine (l1Once_any k a n c zs 10 _ HC.out (by omega) (by omega)).mono ?_
      rintro e w4 ⟨b, rfl, hc4, hg4⟩
      have HWA := hide (HW.out.kept hg4 (Or.inr (by have := own_base HW.out; simp [Value.ownBlock]; omega)))
      have HGA := hide (gb_same HG.out hg4)
      have HCA := hide hc4
      clear hc4 hg4 HW HG HC
      have hsz4 := HGA.out.size
      cases b
      · go_wp2
        go_ret
        exact ⟨g, cap, ks, by rw [HL.out]; rfl, by have := HL.out; omega, by rw [HL.out]; exact HWA.out, HGA.out⟩
      · have hlit : Rd (w4.alloc (.cells #[.int .i64 9223372036854775807, .int .i64 (-9223372036854775808), .int .i64 1000000001] 3)) (some ⟨w4.heap.size, 0, none⟩) 3 [9223372036854775807, -9223372036854775808, 1000000001] := Rd.of_owns (base := w4.heap.size) (cap := 3) (World.ownsRow_lit w4 #[.int .i64 9223372036854775807, .int .i64 (-9223372036854775808), .int .i64 1000000001] 3 (Nat.le_refl _) (by unfold maxLen; omega) rfl)
        go_wp2_with fail
        refine (l1PickInt_any k a n c zs w4.heap.size 3 3 [9223372036854775807, -9223372036854775808, 1000000001] _ (HCA.out.mono ((Below.refl _ _).alloc (Nat.le_refl _) _)) hlit (by omega) (by omega) (by omega)).mono ?_
        generalize [9223372036854775807, -9223372036854775808, 1000000001] = ls
        rintro e w2 ⟨q, hq, rfl, hc2, hg2⟩
        generalize ls.getD q 0 = x
        have HW2 := hide ((HWA.out.alloc _).kept hg2 (Or.inr (by have := own_base HWA.out; simp [Value.ownBlock]; omega)))
        have HG2 := hide (gb_same (gb_same HGA.out (World.grownBy_alloc w4 _ (some k))) hg2)
        have HC2 := hide hc2
        have hsz2 := HG2.out.size
        have hkk := own_base HW2.out
        clear hc2 hg2 hlit HWA HCA HGA
        go_wp2_with (first
          | (at_builtin; refine wpList_append_own _ rfl _ _ 32 rfl w.heap.size 3 i0 (.int .i64 0) 1 8 Tryd.underlying32 hi hz0 hz1 hz2 rfl (by decide) (.slice (some ⟨g, 0, none⟩) j cap) j (ks.map (Value.int .i64)) rfl (HW2.out.alloc _) ⟨w2.heap.size, 0, none⟩ 1 1 [.int .i64 x] rfl rfl (cell_one_new _ _ _) (by simp [Value.oneCell']) (by unfold maxLen; omega) (by omega) (by simp; omega) ?_; intro v' w3 h1 h2 h3)
          | go_in)
        obtain ⟨g', cap', hv, ho, hgn, gg, hgg, hg3⟩ := app_key HL.out HW2.out (Nat.le_refl _) HG2.out h1 h2 h3
        have HC3 := hide (HC2.out.grown hg3 (by omega) (fun hn x hx => by have := ha_lt HC0B.out HG2.out hn x hx; omega))
        have hlen : (ks ++ [x]).length = j + 1 := by simp [HL.out]
        rw [hlen] at hv ho
        clear h1 h2 h3
        rw [hv]
        go_wp2
        go_ret
        exact ⟨g', cap', ks ++ [x], by rw [hlen]; rfl, by omega, by rw [hlen]; exact ho, hgn⟩
end Go.Proofs.YtljpiamkihhieakDoor
