/- CheapOr, CheapLeast, CheapImpl: one text. -/
import Derived.Test.YtcblpoeeembniabGreatDoorPkK
import Derived.Test.YtcblpoeeembniabGreatDoorAppendSome
import Derived.Test.YtcblpoeeembniabGreatDoorPkC
import Derived.Test.YtcblpoeeembniabGreatDoorPkB
import Derived.Deep.DeepMust
import Derived.Deep.DeepCutAuto
import Derived.Deep.RegionHeld3
import Derived.Test.YtcblpoeeembniabGreatDoorHoldsImpl
import Derived.Test.YtcblpoeeembniabGreatDoorLowPlain
/- Which of two types is dearer: the program. -/
namespace Go.Proofs.YtcblpoeeembniabGreatDoor
open Go Go.RowKit
set_option linter.unusedVariables false
set_option linter.unusedSimpArgs false

theorem or2_any (g : Nat) (x y z : Int) (w : World) (hb : Blk w g [.int .i64 x, .int .i64 y]) (hz : z = if x = 0 then y else x) :
 Calls Tryz.prog 66 #[.slice (some ⟨g, 0, none⟩) 2 2] w fun e w' => e = .returned (.int .i64 z) ∧ w' = w := by
 have HZ := hide hz
 clear hz
 have c0 : w.cell? ⟨g, 0, none⟩ = some (.int .i64 x) := (hb 0 (by simp)).1
 have c1 : w.cell? ⟨g, 1, none⟩ = some (.int .i64 y) := (hb 1 (by simp)).1
 clear hb
 go_enter Tryz.func66, Tryz.ntmps66
 go_wp2
 go_loop [8] (fun i => ∃ k : Nat, k ≤ 2 ∧ i = .int .i64 k ∧ (0 < k → x = 0) ∧ (1 < k → y = 0)) (fun i => 2 - (intOf i).toNat)
 case atStart => exact ⟨0, by omega, rfl, fun h => absurd h (by omega), fun h => absurd h (by omega)⟩
 case round =>
  obtain ⟨k, hk, rfl, hx, hy⟩ := hrel
  obtain rfl | rfl | rfl : k = 0 ∨ k = 1 ∨ k = 2 := by omega
  · clear hx hy
    by_cases h0 : x = 0
    · have hne : (x != 0) = false := by simp [h0]
      have HX := hide h0
      clear h0
      go_wp2
      go_round
      case rel => exact ⟨1, by omega, by go_num, fun _ => unhide HX, fun h => absurd h (by omega)⟩
      case measure => simp [intOf]
    · have hne : (x != 0) = true := by simp [h0]
      have HX := hide h0
      clear h0
      go_wp2
      go_ret
      exact ⟨ret_num (by rw [unhide HZ, if_neg HX.out]), rfl⟩
  · have HX := hide (hx (by omega))
    clear hx hy
    by_cases h0 : y = 0
    · have hne : (y != 0) = false := by simp [h0]
      have HY := hide h0
      clear h0
      go_wp2
      go_round
      case rel => exact ⟨2, by omega, by go_num, fun _ => unhide HX, fun _ => unhide HY⟩
      case measure => simp [intOf]
    · have hne : (y != 0) = true := by simp [h0]
      clear h0
      go_wp2
      go_ret
      exact ⟨ret_num (by rw [unhide HZ, if_pos HX.out]), rfl⟩
  · have HX := hide (hx (by omega))
    have HY := hide (hy (by omega))
    clear hx hy
    go_wp2
    go_ret
    exact ⟨ret_num (by rw [unhide HZ, if_pos HX.out, unhide HY]), rfl⟩
set_option maxRecDepth 100000 in
set_option maxHeartbeats 4000000 in
theorem byCost_any (s t : TypeV) (w : World) :
 Calls Tryz.prog 42 #[.agg #[.int .i64 s.id, .int .i64 s.wd, .int .i64 s.ht, .int .i64 s.dp, .int .i64 s.tare, .int .i64 s.gram, .int .i64 s.cost], .agg #[.int .i64 t.id, .int .i64 t.wd, .int .i64 t.ht, .int .i64 t.dp, .int .i64 t.tare, .int .i64 t.gram, .int .i64 t.cost]] w fun e w' => e = .returned (.int .i64 (costC s t)) ∧ Below w.heap.size w w' := by
 go_enter Tryz.func42, Tryz.ntmps42
 go_wp2_with fail
 generalize hW : ((w.alloc (.cells #[.int .i64 s.id, .int .i64 s.wd, .int .i64 s.ht, .int .i64 s.dp, .int .i64 s.tare, .int .i64 s.gram, .int .i64 s.cost] 54)).alloc (.cells #[.int .i64 t.id, .int .i64 t.wd, .int .i64 t.ht, .int .i64 t.dp, .int .i64 t.tare, .int .i64 t.gram, .int .i64 t.cost] 54)) = W at *
 obtain ⟨BW, KaW, ZaW, KbW, ZbW⟩ := en2 hW
 have Ga : w.heap.size ≤ w.heap.size := by omega
 have Gb : w.heap.size ≤ (w.heap.size + 1) := by omega
 have Nqab : w.heap.size ≠ (w.heap.size + 1) := by omega
 have Nqba : (w.heap.size + 1) ≠ w.heap.size := by omega
 clear hW
 go_upto_region 1 with fail
 go_cut [4] (fun v wc => v = .int .i64 (costC s t) ∧ Below w.heap.size w wc)
 case first =>
  refine wp_region_noPanic ?_
  have Bu0 : Hid (Below w.heap.size w W.drew) := BW.out.drew
  have Kau0 : Hid (Blk W.drew w.heap.size [.int .i64 s.id, .int .i64 s.wd, .int .i64 s.ht, .int .i64 s.dp, .int .i64 s.tare, .int .i64 s.gram, .int .i64 s.cost]) := unhide KaW
  have Zau0 : w.heap.size < W.drew.heap.size := ZaW
  have Kbu0 : Hid (Blk W.drew (w.heap.size + 1) [.int .i64 t.id, .int .i64 t.wd, .int .i64 t.ht, .int .i64 t.dp, .int .i64 t.tare, .int .i64 t.gram, .int .i64 t.cost]) := unhide KbW
  have Zbu0 : (w.heap.size + 1) < W.drew.heap.size := ZbW
  obtain ⟨S, hSdef⟩ : ∃ S : World → Prop, S = (fun w' => w'.cell? ⟨w.heap.size, 6, none⟩ = some (.int .i64 s.cost) ∧ w'.cell? ⟨w.heap.size, 0, none⟩ = some (.int .i64 s.id) ∧ w'.cell? ⟨(w.heap.size + 1), 6, none⟩ = some (.int .i64 t.cost) ∧ w'.cell? ⟨(w.heap.size + 1), 0, none⟩ = some (.int .i64 t.id)) := ⟨_, rfl⟩
  have hSmk : ∀ wq, Blk wq w.heap.size [.int .i64 s.id, .int .i64 s.wd, .int .i64 s.ht, .int .i64 s.dp, .int .i64 s.tare, .int .i64 s.gram, .int .i64 s.cost] → Blk wq (w.heap.size + 1) [.int .i64 t.id, .int .i64 t.wd, .int .i64 t.ht, .int .i64 t.dp, .int .i64 t.tare, .int .i64 t.gram, .int .i64 t.cost] → S wq := fun wq ka kb => by rw [hSdef]; exact ⟨(ka 6 (by simp)).1, (ka 0 (by simp)).1, (kb 6 (by simp)).1, (kb 0 (by simp)).1⟩
  have hSd : ∀ wq, S wq → (fun w' => w'.cell? ⟨w.heap.size, 6, none⟩ = some (.int .i64 s.cost) ∧ w'.cell? ⟨w.heap.size, 0, none⟩ = some (.int .i64 s.id) ∧ w'.cell? ⟨(w.heap.size + 1), 6, none⟩ = some (.int .i64 t.cost) ∧ w'.cell? ⟨(w.heap.size + 1), 0, none⟩ = some (.int .i64 t.id)) wq := fun wq h => by rw [hSdef] at h; exact h
  clear hSdef
  have hHeld : S W.drew := hSmk W.drew Kau0.out Kbu0.out
  refine wp_region_to (S := S) (T := []) (by kernel_rfl) hHeld (fun _ => ?_)
  generalize W.drew = u0 at *
  refine wpTo_ts (i := 0) (v := ?_) rfl (by kernel_rfl) hSd (by rfl) (fun w hSw => ?_) (by assumption) ?_
  rotate_left
  · ((try dsimp only [RqC] at hSw); go_simp <;> with_reducible rfl)
  refine wpTo_ts (i := 1) (v := ?_) rfl (by kernel_rfl) hSd (by rfl) (fun w hSw => ?_) (by assumption) ?_
  rotate_left
  · ((try dsimp only [RqC] at hSw); go_simp <;> with_reducible rfl)
  refine wpTo_ts (i := 2) (v := ?_) rfl (by kernel_rfl) hSd (by rfl) (fun w hSw => ?_) (by assumption) ?_
  rotate_left
  · ((try dsimp only [RqC] at hSw); go_simp <;> with_reducible rfl)
  refine wpTo_ts (i := 3) (v := ?_) rfl (by kernel_rfl) hSd (by rfl) (fun w hSw => ?_) (by assumption) ?_
  rotate_left
  · ((try dsimp only [RqC] at hSw); go_simp <;> with_reducible rfl)
  refine wpTo_ts (i := 5) (v := ?_) rfl (by kernel_rfl) hSd (by rfl) (fun w hSw => ?_) (by assumption) ?_
  rotate_left
  · ((try dsimp only [RqC] at hSw); go_simp <;> with_reducible rfl)
  refine wpTo_ts (i := 6) (v := ?_) rfl (by kernel_rfl) hSd (by rfl) (fun w hSw => ?_) (by assumption) ?_
  rotate_left
  · ((try dsimp only [RqC] at hSw); go_simp <;> with_reducible rfl)
  refine wpTo_ts (i := 7) (v := ?_) rfl (by kernel_rfl) hSd (by rfl) (fun w hSw => ?_) (by assumption) ?_
  rotate_left
  · ((try dsimp only [RqC] at hSw); go_simp <;> with_reducible rfl)
  refine wpTo_ts (i := 8) (v := ?_) rfl (by kernel_rfl) hSd (by rfl) (fun w hSw => ?_) (by assumption) ?_
  rotate_left
  · ((try dsimp only [RqC] at hSw); go_simp <;> with_reducible rfl)
  try simp only [Act.put, zz1, zz2, zz3, zz4, zz5, zz6]
  refine wpTo_inv (fun a0 listed ai wi => ∃ (b4 b9 b10 b11 b12 : Bool) (gl : Nat), listed = #[true, true, true, true, b4, true, true, true, true, b9, b10, b11, b12] ∧ ai = fillS b12 4 (.int .i64 (costC s t)) (fillS b11 16 (.int .i64 (costC s t)) (fillS b10 15 (.slice (some ⟨gl, 0, none⟩) 2 2) (fillS b9 14 (.int .i64 (cmpI s.id t.id)) (fillS b4 9 (.int .i64 (cmpI s.cost t.cost)) (a0))))) ∧ Hid (Below u0.heap.size u0 wi) ∧ Hid (Tk b10 → Blk wi gl [.int .i64 (cmpI s.cost t.cost), .int .i64 (cmpI s.id t.id)] ∧ gl < wi.heap.size ∧ u0.heap.size ≤ gl) ∧ Hid (Tk b9 → Tk b4) ∧ Hid (Tk b10 → Tk b4 ∧ Tk b9) ∧ Hid (Tk b11 → Tk b4 ∧ Tk b9 ∧ Tk b10) ∧ Hid (Tk b12 → Tk b4 ∧ Tk b9 ∧ Tk b10 ∧ Tk b11)) ⟨false, false, false, false, false, 0, rfl, by simp only [fillS_false], (Below.refl _ _), (fun h => by cases h), (fun h => by cases h), (fun h => by cases h), (fun h => by cases h), (fun h => by cases h)⟩ ?hS ?hT ?step ?fin _ (by decide)
  case hS =>
   rintro listed ai wi ⟨b4, b9, b10, b11, b12, gl, rfl, ha, FB, FKl, FC9, FC10, FC11, FC12⟩ hTf
   exact hSmk wi (Blk.below (FB.out) Zau0 Kau0.out) (Blk.below (FB.out) Zbu0 Kbu0.out)
  case hT =>
   exact fun _ _ _ _ f hf => by cases hf
  case step =>
   rintro listed ai wi i o ⟨b4, b9, b10, b11, b12, gl, rfl, ha, FB, FKl, FC9, FC10, FC11, FC12⟩ ho hl hall
   have hi : i < 13 := (Array.getElem?_eq_some_iff.1 ho).1
   obtain rfl | rfl | rfl | rfl | rfl | rfl | rfl | rfl | rfl | rfl | rfl | rfl | rfl : i = 0 ∨ i = 1 ∨ i = 2 ∨ i = 3 ∨ i = 4 ∨ i = 5 ∨ i = 6 ∨ i = 7 ∨ i = 8 ∨ i = 9 ∨ i = 10 ∨ i = 11 ∨ i = 12 := by omega
   · exact absurd hl (by simp)
   · exact absurd hl (by simp)
   · exact absurd hl (by simp)
   · exact absurd hl (by simp)
   · obtain rfl := Option.some.inj ho
     obtain rfl : b4 = false := by simpa using hl
     obtain rfl : b9 = false := Tk_no (fun p => by have h8 := FC9.out p; simp [Tk] at h8)
     obtain rfl : b10 = false := Tk_no (fun p => by have h8 := FC10.out p; simp [Tk] at h8)
     obtain rfl : b11 = false := Tk_no (fun p => by have h8 := FC11.out p; simp [Tk] at h8)
     obtain rfl : b12 = false := Tk_no (fun p => by have h8 := FC12.out p; simp [Tk] at h8)
     clear ho hl hall hi
     simp only [fillS, pickS_true, pickS_false, Act.put, zz7, zz8, zz9, zz10, zz11, zz1, zz2, zz3, zz4, zz5, zz6] at ha
     subst ha
     refine wpOp_stepS (o := _) rfl (fun K hK => ?_)
     go_simp
     refine (compare_any s.cost t.cost wi).mono ?_
     rintro e wz ⟨rfl, hwz⟩
     subst wz
     go_wp2_with fail
     refine hK.out _ _ ?_
     exact ⟨true, false, false, false, false, gl, rfl, by simp only [fillS, pickS_true, pickS_false, Act.put, zz7, zz8, zz9, zz10, zz11, zz1, zz2, zz3, zz4, zz5, zz6], (FB.out), (fun p10 => (by cases p10)), (fun p9 => (by cases p9)), (fun p10 => (by cases p10)), (fun p11 => (by cases p11)), (fun p12 => (by cases p12))⟩
   · exact absurd hl (by simp)
   · exact absurd hl (by simp)
   · exact absurd hl (by simp)
   · exact absurd hl (by simp)
   · obtain rfl := Option.some.inj ho
     obtain rfl : b9 = false := by simpa using hl
     obtain rfl : b4 = true := by simpa using hall ⟨4, .chain⟩ (by simp) rfl
     obtain rfl : b10 = false := Tk_no (fun p => by have h8 := FC10.out p; simp [Tk] at h8)
     obtain rfl : b11 = false := Tk_no (fun p => by have h8 := FC11.out p; simp [Tk] at h8)
     obtain rfl : b12 = false := Tk_no (fun p => by have h8 := FC12.out p; simp [Tk] at h8)
     clear ho hl hall hi
     simp only [fillS, pickS_true, pickS_false, Act.put, zz7, zz8, zz9, zz10, zz11, zz1, zz2, zz3, zz4, zz5, zz6] at ha
     subst ha
     refine wpOp_stepS (o := _) rfl (fun K hK => ?_)
     go_simp
     refine (compare_any s.id t.id wi).mono ?_
     rintro e wz ⟨rfl, hwz⟩
     subst wz
     go_wp2_with fail
     refine hK.out _ _ ?_
     exact ⟨true, true, false, false, false, gl, rfl, by simp only [fillS, pickS_true, pickS_false, Act.put, zz7, zz8, zz9, zz10, zz11, zz1, zz2, zz3, zz4, zz5, zz6], (FB.out), (fun p10 => (by cases p10)), (fun p9 => rfl), (fun p10 => (by cases p10)), (fun p11 => (by cases p11)), (fun p12 => (by cases p12))⟩
   · obtain rfl := Option.some.inj ho
     obtain rfl : b10 = false := by simpa using hl
     obtain rfl : b4 = true := by simpa using hall ⟨4, .data⟩ (by simp) rfl
     obtain rfl : b9 = true := by simpa using hall ⟨9, .data⟩ (by simp) rfl
     obtain rfl : b11 = false := Tk_no (fun p => by have h8 := FC11.out p; simp [Tk] at h8)
     obtain rfl : b12 = false := Tk_no (fun p => by have h8 := FC12.out p; simp [Tk] at h8)
     clear ho hl hall hi
     simp only [fillS, pickS_true, pickS_false, Act.put, zz7, zz8, zz9, zz10, zz11, zz1, zz2, zz3, zz4, zz5, zz6] at ha
     subst ha
     refine wpOp_stepS (o := _) rfl (fun K hK => ?_)
     go_simp
     refine hK.out _ _ ?_
     exact ⟨true, true, true, false, false, wi.heap.size, rfl, by simp only [fillS, pickS_true, pickS_false, Act.put, zz7, zz8, zz9, zz10, zz11, zz1, zz2, zz3, zz4, zz5, zz6], ((FB.out.alloc FB.out.size _)), (fun p10 => ⟨Blk.allocAt [.int .i64 (cmpI s.cost t.cost), .int .i64 (cmpI s.id t.id)] (by rfl), lt_alloc_new wi _, (FB.out).size⟩), (fun p9 => (unhide FC9 p9)), (fun p10 => ⟨rfl, rfl⟩), (fun p11 => (by cases p11)), (fun p12 => (by cases p12))⟩
   · obtain rfl := Option.some.inj ho
     obtain rfl : b11 = false := by simpa using hl
     obtain rfl : b10 = true := by simpa using hall ⟨10, .data⟩ (by simp) rfl
     obtain ⟨rfl, rfl⟩ := FC10.out rfl
     obtain rfl : b12 = false := Tk_no (fun p => by have h8 := FC12.out p; simp [Tk] at h8)
     clear ho hl hall hi
     simp only [fillS, pickS_true, pickS_false, Act.put, zz7, zz8, zz9, zz10, zz11, zz1, zz2, zz3, zz4, zz5, zz6] at ha
     subst ha
     refine wpOp_stepS (o := _) rfl (fun K hK => ?_)
     go_simp
     refine (or2_any gl _ _ (costC s t) wi (FKl.out rfl).1 rfl).mono ?_
     rintro e wz ⟨rfl, hwz⟩
     subst wz
     go_wp2_with fail
     refine hK.out _ _ ?_
     exact ⟨true, true, true, true, false, gl, rfl, by simp only [fillS, pickS_true, pickS_false, Act.put, zz7, zz8, zz9, zz10, zz11, zz1, zz2, zz3, zz4, zz5, zz6], (FB.out), (fun p10 => (unhide FKl p10)), (fun p9 => (unhide FC9 p9)), (fun p10 => (unhide FC10 p10)), (fun p11 => ⟨rfl, rfl, rfl⟩), (fun p12 => (by cases p12))⟩
   · obtain rfl := Option.some.inj ho
     obtain rfl : b12 = false := by simpa using hl
     obtain rfl : b11 = true := by simpa using hall ⟨11, .data⟩ (by simp) rfl
     obtain ⟨rfl, rfl, rfl⟩ := FC11.out rfl
     clear ho hl hall hi
     simp only [fillS, pickS_true, pickS_false, Act.put, zz7, zz8, zz9, zz10, zz11, zz1, zz2, zz3, zz4, zz5, zz6] at ha
     subst ha
     refine wpOp_stepS (o := _) rfl (fun K hK => ?_)
     go_simp
     refine hK.out _ _ ?_
     exact ⟨true, true, true, true, true, gl, rfl, by simp only [fillS, pickS_true, pickS_false, Act.put, zz7, zz8, zz9, zz10, zz11, zz1, zz2, zz3, zz4, zz5, zz6], (FB.out), (fun p10 => (unhide FKl p10)), (fun p9 => (unhide FC9 p9)), (fun p10 => (unhide FC10 p10)), (fun p11 => (unhide FC11 p11)), (fun p12 => ⟨rfl, rfl, rfl, rfl⟩)⟩
  case fin =>
   rintro listed ai wi ⟨b4, b9, b10, b11, b12, gl, rfl, ha, FB, FKl, FC9, FC10, FC11, FC12⟩ hall
   obtain rfl : b4 = true := by
    have h9 := hall 4 _ rfl (by
     intro e he hbd
     simp at he
     rcases he with rfl | rfl <;> simp
     )
    simpa using h9
   obtain rfl : b9 = true := by
    have h9 := hall 9 _ rfl (by
     intro e he hbd
     simp at he
     rcases he with rfl | rfl | rfl <;> simp
     )
    simpa using h9
   obtain rfl : b10 = true := by
    have h9 := hall 10 _ rfl (by
     intro e he hbd
     simp at he
     rcases he with rfl | rfl <;> simp
     )
    simpa using h9
   obtain rfl : b11 = true := by
    have h9 := hall 11 _ rfl (by
     intro e he hbd
     simp at he
     rcases he with rfl | rfl <;> simp
     )
    simpa using h9
   obtain rfl : b12 = true := by
    have h9 := hall 12 _ rfl (by
     intro e he hbd
     simp at he
     rcases he with rfl | rfl | rfl | rfl | rfl | rfl | rfl | rfl | rfl | rfl | rfl | rfl | rfl | rfl <;> simp
     )
    simpa using h9
   clear hall
   simp only [fillS, pickS_true, pickS_false, Act.put, zz7, zz8, zz9, zz10, zz11, zz1, zz2, zz3, zz4, zz5, zz6] at ha
   subst ha
   refine NoPanic.normal ?_
   have Bwi := hide (Bu0.out.trans (FB.out.mono Bu0.out.size))
   have Kawi := hide (Blk.below FB.out Zau0 Kau0.out)
   have Zawi := Nat.lt_of_lt_of_le Zau0 FB.out.size
   have Kbwi := hide (Blk.below FB.out Zbu0 Kbu0.out)
   have Zbwi := Nat.lt_of_lt_of_le Zbu0 FB.out.size
   have Klwi := hide (FKl.out rfl).1
   have Zlwi := (FKl.out rfl).2.1
   have Gl := Nat.le_trans Bu0.out.size (FKl.out rfl).2.2
   clear FB FKl FC9 FC10 FC11 FC12
   go_wp2_with fail
   go_meet
   case rel => exact ⟨rfl, unhide Bwi⟩
 case rest =>
  obtain ⟨rfl, hb⟩ := hcut
  have HB := hide hb
  clear hb
  go_wp2
  go_ret
  exact ⟨rfl, unhide HB⟩
end Go.Proofs.YtcblpoeeembniabGreatDoor

/- The least of all: the program. -/
namespace Go.Proofs.YtcblpoeeembniabGreatDoor
open Go Go.RowKit
set_option linter.unusedVariables false
set_option linter.unusedSimpArgs false

set_option maxRecDepth 100000 in
set_option maxHeartbeats 4000000 in
theorem leastOf_any (a : Option Addr) (n c : Nat) (xs : List TypeV) (w : World) (hx : RdR TypeV.cells 7 w a n xs) (hn : n ≤ 1048600) :
 Calls Tryz.prog 41 #[.slice a n c, .func (.func 42) #[] #[]] w fun e w' => e = .returned (.tuple #[.agg #[.int .i64 ((leastT xs).getD TypeV.zero).id, .int .i64 ((leastT xs).getD TypeV.zero).wd, .int .i64 ((leastT xs).getD TypeV.zero).ht, .int .i64 ((leastT xs).getD TypeV.zero).dp, .int .i64 ((leastT xs).getD TypeV.zero).tare, .int .i64 ((leastT xs).getD TypeV.zero).gram, .int .i64 ((leastT xs).getD TypeV.zero).cost], .bool (leastT xs).isSome]) ∧ Below w.heap.size w w' := by
 have HX := hide hx
 have hxl := hx.1
 clear hx
 go_enter Tryz.func41, Tryz.ntmps41
 go_wp2_with fail
 generalize hW : ((w.alloc (.cells #[.int .i64 0, .int .i64 0, .int .i64 0, .int .i64 0, .int .i64 0, .int .i64 0, .int .i64 0] 54)).alloc (.cells #[.int .i64 0, .int .i64 0, .int .i64 0, .int .i64 0, .int .i64 0, .int .i64 0, .int .i64 0] 54)) = W at *
 obtain ⟨BW, KzW, ZzW, KmW, ZmW⟩ := en2 hW
 have Gz : w.heap.size ≤ w.heap.size := by omega
 have Gm : w.heap.size ≤ (w.heap.size + 1) := by omega
 have Nqzm : w.heap.size ≠ (w.heap.size + 1) := by omega
 have Nqmz : (w.heap.size + 1) ≠ w.heap.size := by omega
 clear hW
 go_loopw [11] (fun i wr => ∃ (k : Nat) (m : TypeV), k ≤ n ∧ i = .int .i64 k ∧ (leastT (xs.take k)).getD TypeV.zero = m ∧ Blk wr w.heap.size [.int .i64 0, .int .i64 0, .int .i64 0, .int .i64 0, .int .i64 0, .int .i64 0, .int .i64 0] ∧ Blk wr (w.heap.size + 1) [.int .i64 m.id, .int .i64 m.wd, .int .i64 m.ht, .int .i64 m.dp, .int .i64 m.tare, .int .i64 m.gram, .int .i64 m.cost] ∧ w.heap.size + 1 < wr.heap.size ∧ Below w.heap.size w wr) (fun i _ => n - (intOf i).toNat)
 case atStart => exact ⟨0, TypeV.zero, Nat.zero_le _, rfl, rfl, unhide KzW, unhide KmW, ZmW, unhide BW⟩
 case round =>
  clear KzW KmW ZmW ZzW BW Nqzm Nqmz
  obtain ⟨k, m, hk, rfl, hm, kz, km, Zmwr, hb⟩ := hrel
  have Kzwr := hide kz
  have Kmwr := hide km
  have Zzwr : w.heap.size < wr.heap.size := by omega
  have Bwr := hide hb
  have HM := hide hm
  have Nqzm : w.heap.size ≠ w.heap.size + 1 := by omega
  clear kz km hm
  by_cases hlk : k < n
  case neg =>
   have hkn : k = n := by omega
   have HE : Hid ((leastT xs).getD TypeV.zero = m) := by have h1 := unhide HM; rwa [List.take_of_length_le (by omega)] at h1
   clear hb
   obtain ⟨m0, m1, m2, m3, m4, m5, m6⟩ := Blk.cs7 Kmwr.out
   obtain ⟨z0, zf0, z1, zf1, z2, zf2, z3, zf3, z4, zf4, z5, zf5, z6, zf6⟩ := Blk.cf7 Kzwr.out
   have CC : Blk (((((((wr.setCell ⟨w.heap.size, 0, none⟩ (.int .i64 m.id)).setCell ⟨w.heap.size, 1, none⟩ (.int .i64 m.wd)).setCell ⟨w.heap.size, 2, none⟩ (.int .i64 m.ht)).setCell ⟨w.heap.size, 3, none⟩ (.int .i64 m.dp)).setCell ⟨w.heap.size, 4, none⟩ (.int .i64 m.tare)).setCell ⟨w.heap.size, 5, none⟩ (.int .i64 m.gram)).setCell ⟨w.heap.size, 6, none⟩ (.int .i64 m.cost)) w.heap.size [.int .i64 m.id, .int .i64 m.wd, .int .i64 m.ht, .int .i64 m.dp, .int .i64 m.tare, .int .i64 m.gram, .int .i64 m.cost] := Blk.fill7 Kzwr.out
   obtain ⟨e0, e1, e2, e3, e4, e5, e6⟩ := Blk.cs7 CC
   clear CC
   rcases Nat.eq_zero_or_pos n with h0 | h0
   · have HS : Hid ((leastT xs).isSome = false) := by rw [Hid, leastT_isSome, hxl, h0]; rfl
     subst h0
     obtain rfl : k = 0 := by omega
     clear hkn
     go_wp2
     refine bodyPost_ret (v := .tuple #[.agg #[.int .i64 m.id, .int .i64 m.wd, .int .i64 m.ht, .int .i64 m.dp, .int .i64 m.tare, .int .i64 m.gram, .int .i64 m.cost], .bool false]) (by simp [results, Tryz.results41, go_sem, e0, e1, e2, e3, e4, e5, e6]) rfl ⟨ret_type HE.out.symm HS.out.symm, ?_⟩
     exact below_fill7 Bwr.out (Nat.le_refl _)
   · have HS : Hid ((leastT xs).isSome = true) := by rw [Hid, leastT_isSome, hxl]; exact decide_eq_true h0
     have hi0 : (0 : Int) < (n : Int) := by omega
     subst hkn
     go_wp2
     refine bodyPost_ret (v := .tuple #[.agg #[.int .i64 m.id, .int .i64 m.wd, .int .i64 m.ht, .int .i64 m.dp, .int .i64 m.tare, .int .i64 m.gram, .int .i64 m.cost], .bool true]) (by simp [results, Tryz.results41, go_sem, e0, e1, e2, e3, e4, e5, e6]) rfl ⟨ret_type HE.out.symm HS.out.symm, ?_⟩
     exact below_fill7 Bwr.out (Nat.le_refl _)
  have HL1 := hide (fun h0 : k = 0 => least_first (l := xs) (by omega))
  have HLY := hide (fun (h0 : 0 < k) => least_yes (l := xs) (k := k) (m := m) (by omega) h0 HM.out)
  have HLN := hide (fun (h0 : 0 < k) => least_no (l := xs) (k := k) (m := m) (by omega) h0 HM.out)
  obtain ⟨b, off, hxa, hc⟩ := (HX.out.mono (by omega) TypeV.len hb).2 k hlk
  have HQ0 : Hid (k = 0 → xs.getD 0 default = xs.getD k default) := fun h => by rw [h]
  generalize xs.getD k default = q at hc HLY HLN HQ0
  subst hxa
  clear hb
  have d0 : wr.cell? ⟨b, off + k * 7, none⟩ = some (.int .i64 q.id) := hc 0 (by omega)
  have d1 : wr.cell? ⟨b, off + k * 7 + 1, none⟩ = some (.int .i64 q.wd) := hc 1 (by omega)
  have d2 : wr.cell? ⟨b, off + k * 7 + 2, none⟩ = some (.int .i64 q.ht) := hc 2 (by omega)
  have d3 : wr.cell? ⟨b, off + k * 7 + 3, none⟩ = some (.int .i64 q.dp) := hc 3 (by omega)
  have d4 : wr.cell? ⟨b, off + k * 7 + 4, none⟩ = some (.int .i64 q.tare) := hc 4 (by omega)
  have d5 : wr.cell? ⟨b, off + k * 7 + 5, none⟩ = some (.int .i64 q.gram) := hc 5 (by omega)
  have d6 : wr.cell? ⟨b, off + k * 7 + 6, none⟩ = some (.int .i64 q.cost) := hc 6 (by omega)
  clear hc
  by_cases hk0 : k = 0
  case pos =>
   have HE : Hid ((leastT (xs.take (0 + 1))).getD TypeV.zero = q) := by rw [Hid, HL1.out hk0]; exact HQ0.out hk0
   subst hk0
   simp only [Nat.zero_mul, Nat.add_zero] at d0 d1 d2 d3 d4 d5 d6
   obtain ⟨m0, mf0, m1, mf1, m2, mf2, m3, mf3, m4, mf4, m5, mf5, m6, mf6⟩ := Blk.cf7 Kmwr.out
   go_wp2
   go_roundw
   case rel => exact ⟨1, q, by omega, by go_num, unhide HE, (Blk.others7 Kzwr.out Nqzm).allocOld (by simpa using Zzwr) _, (Blk.fill7 Kmwr.out).allocOld (by simpa using Zmwr) _, by simp; omega, bw_alloc (below_fill7 Bwr.out (by omega)) _⟩
   case measure => simp [intOf]; omega
  have hik : ¬ (k : Int) = 0 := by omega
  have h0k : 0 < k := by omega
  obtain ⟨m0, m1, m2, m3, m4, m5, m6⟩ := Blk.cs7 Kmwr.out
  go_wp2_with fail
  clear m0 d0 m1 d1 m2 d2 m3 d3 m4 d4 m5 d5 m6 d6
  generalize hW : (wr.alloc (.cells #[.int .i64 q.id, .int .i64 q.wd, .int .i64 q.ht, .int .i64 q.dp, .int .i64 q.tare, .int .i64 q.gram, .int .i64 q.cost] 54)) = v1 at *
  obtain ⟨hb, Kxv1, Zxv1⟩ := en1 hW
  have hb := unhide hb
  have Bv1 := hide (Bwr.out.trans (hb.mono Bwr.out.size))
  have Gx : w.heap.size ≤ wr.heap.size := Bwr.out.size
  have Kzv1 := hide (Blk.below hb Zzwr Kzwr.out)
  have Zzv1 := Nat.lt_of_lt_of_le Zzwr hb.size
  have Kmv1 := hide (Blk.below hb Zmwr Kmwr.out)
  have Zmv1 := Nat.lt_of_lt_of_le Zmwr hb.size
  have Nqzx : w.heap.size ≠ wr.heap.size := Nat.ne_of_lt Zzwr
  have Nqxz := Ne.symm Nqzx
  have Nqmx : (w.heap.size + 1) ≠ wr.heap.size := Nat.ne_of_lt Zmwr
  have Nqxm := Ne.symm Nqmx
  clear hb hW
  clear Bwr Kzwr Zzwr Kmwr Zmwr
  refine (byCost_any q m _).mono ?_
  rintro e v2 ⟨rfl, hb⟩
  have Bv2 := hide (Bv1.out.trans (hb.mono Bv1.out.size))
  have Kzv2 := hide (Blk.below hb Zzv1 Kzv1.out)
  have Zzv2 := Nat.lt_of_lt_of_le Zzv1 hb.size
  have Kmv2 := hide (Blk.below hb Zmv1 Kmv1.out)
  have Zmv2 := Nat.lt_of_lt_of_le Zmv1 hb.size
  have Kxv2 := hide (Blk.below hb Zxv1 Kxv1.out)
  have Zxv2 := Nat.lt_of_lt_of_le Zxv1 hb.size
  clear hb
  clear Bv1 Kzv1 Zzv1 Kmv1 Zmv1 Kxv1 Zxv1
  obtain ⟨cx0, cx1, cx2, cx3, cx4, cx5, cx6⟩ := Blk.cs7 Kxv2.out
  obtain ⟨cm0, fm0, cm1, fm1, cm2, fm2, cm3, fm3, cm4, fm4, cm5, fm5, cm6, fm6⟩ := Blk.cf7 Kmv2.out
  cases hl : lessT q m
  · have HE : Hid ((leastT (xs.take (k + 1))).getD TypeV.zero = m) := HLN.out h0k hl
    have hcc := costC_no hl
    have hcd : decide (costC q m < 0) = false := decide_eq_false hcc
    go_wp2
    go_roundw
    case rel => exact ⟨k + 1, m, by omega, by go_num, unhide HE, unhide Kzv2, unhide Kmv2, Zmv2, unhide Bv2⟩
    case measure => simp [intOf]; omega
  · have HE : Hid ((leastT (xs.take (k + 1))).getD TypeV.zero = q) := HLY.out h0k hl
    have hcc := costC_yes hl
    go_wp2
    go_roundw
    case rel => exact ⟨k + 1, q, by omega, by go_num, unhide HE, Blk.others7 Kzv2.out Nqzm, Blk.fill7 Kmv2.out, by simpa using Zmv2, below_fill7 Bv2.out (by omega)⟩
    case measure => simp [intOf]; omega
end Go.Proofs.YtcblpoeeembniabGreatDoor

/- The cheapest type that holds: the program. -/
namespace Go.Proofs.YtcblpoeeembniabGreatDoor
open Go Go.RowKit
set_option linter.unusedVariables false
set_option linter.unusedSimpArgs false

theorem news7 (W : World) (cs : List Value) (t : TypeId) : ∀ j u, cs[j]? = some u → (W.alloc (.cells cs.toArray t)).cell? ((⟨W.heap.size, 0, none⟩ : Addr).add j) = some u := fun j u hu => (Blk.alloc W cs t).news j u hu
theorem app_type {B n g cap : Nat} {w wr w1 : World} {v' : Value} {L : List TypeV} {q : TypeV} {t : TypeId}
 (hown : wr.ownsRow B 54 7 (.slice (some ⟨g, 0, none⟩) n cap) n (L.flatMap TypeV.cells)) (hbel : Below B w wr) (hB : B ≤ wr.heap.size)
 (h1 : w1.ownsRow B 54 7 v' (n + 1) (L.flatMap TypeV.cells ++ TypeV.cells q)) (h2 : (wr.alloc (.cells #[.int .i64 q.id, .int .i64 q.wd, .int .i64 q.ht, .int .i64 q.dp, .int .i64 q.tare, .int .i64 q.gram, .int .i64 q.cost] t)).grownBy w1 (Value.slice (some ⟨g, 0, none⟩) n cap).ownBlock)
 (h3 : v' = .slice none 0 0 ↔ Value.slice (some ⟨g, 0, none⟩) n cap = .slice none 0 0 ∧ 1 = 0) :
 ∃ g' cap', v' = .slice (some ⟨g', 0, none⟩) (n + 1) cap' ∧ w1.ownsRow B 54 7 (.slice (some ⟨g', 0, none⟩) (n + 1) cap') (n + 1) ((L ++ [q]).flatMap TypeV.cells) ∧ Below B w w1 := by
 have hne : ¬ v' = .slice none 0 0 := fun h => by have := (h3.1 h).2; omega
 obtain ⟨g', cap', rfl⟩ := own_shape h1 hne
 refine ⟨g', cap', rfl, by simpa using h1, ?_⟩
 refine (hbel.alloc hB (.cells #[.int .i64 q.id, .int .i64 q.wd, .int .i64 q.ht, .int .i64 q.dp, .int .i64 q.tare, .int .i64 q.gram, .int .i64 q.cost] t)).grown h2 (by simp; omega) ?_
 intro j hj
 have : g = j := by simpa [Value.ownBlock] using hj
 rw [← this]
 exact own_base hown
set_option maxRecDepth 100000 in
set_option maxHeartbeats 4000000 in
theorem cheapest_any (r : ReqV) (h : ReqH) (a : Option Addr) (n c : Nat) (us : List Int) (w : World) (hr : RdReq w r h) (hs : r.small) (hg : ErrT w) (hu : Rd w a n us) (hn : n ≤ 1048600) :
 Calls Tryz.prog 16 #[reqVal r h, .slice a n c] w fun e w' => e = .returned (.tuple #[.agg #[.int .i64 (cheapV r us).id, .int .i64 (cheapV r us).wd, .int .i64 (cheapV r us).ht, .int .i64 (cheapV r us).dp, .int .i64 (cheapV r us).tare, .int .i64 (cheapV r us).gram, .int .i64 (cheapV r us).cost], .bool (cheapB r us)]) ∧ Below w.heap.size w w' := by
 have htl : r.types.length ≤ 1048576 := by unfold ReqV.small at hs; omega
 obtain ⟨i0, hi0, hz0, hz1, hz2⟩ := info_parts Tryz.infoType
 have HU := hide hu
 have HR := hide hr
 clear hr hu
 have HG := hide hg
 clear hg
 obtain ⟨ap, ta, ai, cp, ct, ci⟩ := h
 unfold reqVal
 go_enter Tryz.func16, Tryz.ntmps16
 go_upto_region 1 with fail
 generalize hW : ((w.alloc (.cells #[.int .i64 r.way, .int .i64 r.pal.wd, .int .i64 r.pal.dp, .int .i64 r.pal.ht, .int .i64 r.pal.gram, .int .i64 r.classes, .slice ap r.pairs.length cp, .slice ta r.types.length ct, .int .i64 r.master, .slice ai r.items.length ci] 41)).alloc (.cells #[.int .i64 0, .int .i64 0, .int .i64 0, .int .i64 0, .int .i64 0, .int .i64 0, .int .i64 0] 54)) = wb at *
 obtain ⟨Bwb, Kawb, Zawb, Kzwb, Zzwb⟩ := en2 hW
 have Ga : w.heap.size ≤ w.heap.size := by omega
 have Gz : w.heap.size ≤ (w.heap.size + 1) := by omega
 have Nqaz : w.heap.size ≠ (w.heap.size + 1) := by omega
 have Nqza : (w.heap.size + 1) ≠ w.heap.size := by omega
 clear hW
 have ca7 : wb.cell? ⟨w.heap.size, 7, none⟩ = some (.slice ta r.types.length ct) := (Kawb.out 7 (by simp)).1
 go_wp2_with fail
 clear ca7
 have HO0 : Hid ((wb.alloc (.cells #[] 54)).ownsRow wb.heap.size 54 7 (.slice (some ⟨wb.heap.size, 0, none⟩) 0 0) 0 []) := own_lit0 wb (Nat.le_refl _)
 have HB0 : Hid (Below wb.heap.size wb (wb.alloc (.cells #[] 54))) := (Below.refl _ _).alloc (Nat.le_refl _) _
 go_loopw [6, 13] (fun s i wr => ∃ (k g cap : Nat) (L : List TypeV), k ≤ r.types.length ∧ i = .int .i64 k ∧ s = .slice (some ⟨g, 0, none⟩) L.length cap ∧ L = holding r us (r.types.take k) ∧ wr.ownsRow wb.heap.size 54 7 (.slice (some ⟨g, 0, none⟩) L.length cap) L.length (L.flatMap TypeV.cells) ∧ Below wb.heap.size wb wr) (fun _ i _ => r.types.length - (intOf i).toNat)
 case atStart => exact ⟨0, wb.heap.size, 0, [], Nat.zero_le _, rfl, rfl, rfl, unhide HO0, unhide HB0⟩
 case round =>
  clear HO0 HB0
  obtain ⟨k, g, cap, L, hk, rfl, rfl, hL, how, hb⟩ := hrel
  have HL := hide hL
  have hLl : L.length ≤ 1048576 := by rw [hL]; have h1 := holding_len r us (r.types.take k); rw [List.length_take] at h1; omega
  have HO := hide how
  have HBB := hide hb
  have Bwr := hide (Bwb.out.trans (hb.mono Bwb.out.size))
  have Kawr := hide (Blk.below hb Zawb Kawb.out)
  have Zawr := Nat.lt_of_lt_of_le Zawb hb.size
  have Kzwr := hide (Blk.below hb Zzwb Kzwb.out)
  have Zzwr := Nat.lt_of_lt_of_le Zzwb hb.size
  clear hL how
  by_cases hlk : k < r.types.length
  case neg =>
   have HF : Hid (holding r us r.types = L) := by rw [Hid, unhide HL, List.take_of_length_le (by omega)]
   have HRD : Hid (RdR TypeV.cells 7 wr (some ⟨g, 0, none⟩) L.length L) := RdR.of_owns HO.out rfl (flat_at (cells := TypeV.cells) TypeV.len L)
   clear hb
   go_wp2_with fail
   refine (leastOf_any (some ⟨g, 0, none⟩) L.length cap L wr HRD.out (by omega)).mono ?_
   rintro e w2 ⟨rfl, hb⟩
   have HE1 : Hid ((leastT L).getD TypeV.zero = cheapV r us) := by rw [Hid, cheapV, unhide HF]
   have HE2 : Hid ((leastT L).isSome = cheapB r us) := by rw [Hid, cheapB, unhide HF]
   rw [unhide HE1, unhide HE2]
   have HB2 := hide (Bwr.out.trans (hb.mono Bwr.out.size))
   have KZ := hide (Blk.below hb Zzwr Kzwr.out)
   clear hb HO HL HRD HE1 HE2 HF
   obtain ⟨z0, zf0, z1, zf1, z2, zf2, z3, zf3, z4, zf4, z5, zf5, z6, zf6⟩ := Blk.cf7 KZ.out
   have CC : Blk (((((((w2.setCell ⟨w.heap.size + 1, 0, none⟩ (.int .i64 (cheapV r us).id)).setCell ⟨w.heap.size + 1, 1, none⟩ (.int .i64 (cheapV r us).wd)).setCell ⟨w.heap.size + 1, 2, none⟩ (.int .i64 (cheapV r us).ht)).setCell ⟨w.heap.size + 1, 3, none⟩ (.int .i64 (cheapV r us).dp)).setCell ⟨w.heap.size + 1, 4, none⟩ (.int .i64 (cheapV r us).tare)).setCell ⟨w.heap.size + 1, 5, none⟩ (.int .i64 (cheapV r us).gram)).setCell ⟨w.heap.size + 1, 6, none⟩ (.int .i64 (cheapV r us).cost)) (w.heap.size + 1) [.int .i64 (cheapV r us).id, .int .i64 (cheapV r us).wd, .int .i64 (cheapV r us).ht, .int .i64 (cheapV r us).dp, .int .i64 (cheapV r us).tare, .int .i64 (cheapV r us).gram, .int .i64 (cheapV r us).cost] := Blk.fill7 KZ.out
   obtain ⟨e0, e1, e2, e3, e4, e5, e6⟩ := Blk.cs7 CC
   clear CC
   go_wp2
   refine bodyPost_ret (v := .tuple #[.agg #[.int .i64 (cheapV r us).id, .int .i64 (cheapV r us).wd, .int .i64 (cheapV r us).ht, .int .i64 (cheapV r us).dp, .int .i64 (cheapV r us).tare, .int .i64 (cheapV r us).gram, .int .i64 (cheapV r us).cost], .bool (cheapB r us)]) (by simp [results, Tryz.results16, go_sem, e0, e1, e2, e3, e4, e5, e6]) rfl ⟨rfl, ?_⟩
   exact below_fill7 HB2.out (by omega)
  obtain ⟨b, off, hta, hc⟩ := (HR.out.mono Bwr.out).2.1.2 k hlk
  simp only at hta
  have HHIT := hide (holding_hit (r := r) (us := us) hlk)
  have HMISS := hide (holding_miss (r := r) (us := us) hlk)
  generalize r.types.getD k default = q at hc HHIT HMISS
  subst hta
  clear hb
  have d0 : wr.cell? ⟨b, off + k * 7, none⟩ = some (.int .i64 q.id) := hc 0 (by omega)
  have d1 : wr.cell? ⟨b, off + k * 7 + 1, none⟩ = some (.int .i64 q.wd) := hc 1 (by omega)
  have d2 : wr.cell? ⟨b, off + k * 7 + 2, none⟩ = some (.int .i64 q.ht) := hc 2 (by omega)
  have d3 : wr.cell? ⟨b, off + k * 7 + 3, none⟩ = some (.int .i64 q.dp) := hc 3 (by omega)
  have d4 : wr.cell? ⟨b, off + k * 7 + 4, none⟩ = some (.int .i64 q.tare) := hc 4 (by omega)
  have d5 : wr.cell? ⟨b, off + k * 7 + 5, none⟩ = some (.int .i64 q.gram) := hc 5 (by omega)
  have d6 : wr.cell? ⟨b, off + k * 7 + 6, none⟩ = some (.int .i64 q.cost) := hc 6 (by omega)
  clear hc
  obtain ⟨ca0, ca1, ca2, ca3, ca4, ca5, ca6, ca7, ca8, ca9⟩ := Blk.cs10 Kawr.out
  go_wp2_with fail
  clear ca0 ca1 ca2 ca3 ca4 ca5 ca6 ca7 ca8 ca9 d0 d1 d2 d3 d4 d5 d6
  have HO1 := hide (HO.out.alloc (.cells #[.int .i64 q.id, .int .i64 q.wd, .int .i64 q.ht, .int .i64 q.dp, .int .i64 q.tare, .int .i64 q.gram, .int .i64 q.cost] 54))
  have HBB1 : Hid (Below wb.heap.size wb (wr.alloc (.cells #[.int .i64 q.id, .int .i64 q.wd, .int .i64 q.ht, .int .i64 q.dp, .int .i64 q.tare, .int .i64 q.gram, .int .i64 q.cost] 54))) := HBB.out.alloc HBB.out.size _
  generalize hW : (wr.alloc (.cells #[.int .i64 q.id, .int .i64 q.wd, .int .i64 q.ht, .int .i64 q.dp, .int .i64 q.tare, .int .i64 q.gram, .int .i64 q.cost] 54)) = v1 at *
  obtain ⟨hb, Kxv1, Zxv1⟩ := en1 hW
  have hb := unhide hb
  have Bv1 := hide (Bwr.out.trans (hb.mono Bwr.out.size))
  have Gx : w.heap.size ≤ wr.heap.size := Bwr.out.size
  have Kav1 := hide (Blk.below hb Zawr Kawr.out)
  have Zav1 := Nat.lt_of_lt_of_le Zawr hb.size
  have Kzv1 := hide (Blk.below hb Zzwr Kzwr.out)
  have Zzv1 := Nat.lt_of_lt_of_le Zzwr hb.size
  have Nqax : w.heap.size ≠ wr.heap.size := Nat.ne_of_lt Zawr
  have Nqxa := Ne.symm Nqax
  have Nqzx : (w.heap.size + 1) ≠ wr.heap.size := Nat.ne_of_lt Zzwr
  have Nqxz := Ne.symm Nqzx
  clear hb hW
  clear Bwr Kawr Zawr Kzwr Zzwr
  refine (holds_any r _ _ _ _ us q _ (HR.out.mono Bv1.out) hs (HG.out.later Bv1.out) (HU.out.mono Bv1.out) hn).mono ?_
  rintro e v2 ⟨rfl, hb⟩
  have Bv2 := hide (Bv1.out.trans (hb.mono Bv1.out.size))
  have Kav2 := hide (Blk.below hb Zav1 Kav1.out)
  have Zav2 := Nat.lt_of_lt_of_le Zav1 hb.size
  have Kzv2 := hide (Blk.below hb Zzv1 Kzv1.out)
  have Zzv2 := Nat.lt_of_lt_of_le Zzv1 hb.size
  have Kxv2 := hide (Blk.below hb Zxv1 Kxv1.out)
  have Zxv2 := Nat.lt_of_lt_of_le Zxv1 hb.size
  have HO2 := hide (own_later HO1.out hb)
  have HBB2 := hide (HBB1.out.trans (hb.mono HBB1.out.size))
  clear hb
  clear Bv1 Kav1 Zav1 Kzv1 Zzv1 Kxv1 Zxv1
  obtain ⟨cx0, cx1, cx2, cx3, cx4, cx5, cx6⟩ := Blk.cs7 Kxv2.out
  clear HO HBB HO1 HBB1
  have hBs := HBB2.out.size
  cases hf : holdsR r us q
  · have HE : Hid (L = holding r us (r.types.take (k + 1))) := by rw [Hid, HMISS.out hf]; exact unhide HL
    go_wp2
    go_roundw
    case rel => exact ⟨k + 1, g, cap, L, by omega, by go_num, rfl, unhide HE, unhide HO2, unhide HBB2⟩
    case measure => simp [intOf]; omega
  · have HE : Hid (L ++ [q] = holding r us (r.types.take (k + 1))) := by rw [Hid, HHIT.out hf, ← unhide HL]
    go_wp2_with (first
     | (at_builtin; refine wpList_append_own _ rfl _ _ 38 rfl wb.heap.size 54 i0 (.agg #[.int .i64 0, .int .i64 0, .int .i64 0, .int .i64 0, .int .i64 0, .int .i64 0, .int .i64 0]) 7 56 Tryz.underlying38 hi0 hz0 hz1 hz2 rfl (by decide) (.slice (some ⟨g, 0, none⟩) L.length cap) L.length (L.flatMap TypeV.cells) rfl (HO2.out.alloc _) ⟨v2.heap.size, 0, none⟩ 1 1 [.int .i64 q.id, .int .i64 q.wd, .int .i64 q.ht, .int .i64 q.dp, .int .i64 q.tare, .int .i64 q.gram, .int .i64 q.cost] rfl rfl (news7 _ _ _) (by simp [Value.oneCell']) (by unfold maxLen; omega) (by omega) (by simp; omega) ?_; intro v' w10 h1 h2 h3)
     | go_in)
    obtain ⟨g', cap', hv, ho, hb⟩ := app_type HO2.out HBB2.out (by omega) h1 h2 h3
    have HO3 := hide ho
    have HB3 := hide hb
    clear ho hb h1 h2
    have HV := hide hv
    clear hv h3
    go_wp2
    go_roundw
    case rel => exact ⟨k + 1, g', cap', L ++ [q], by omega, by go_num, by rw [unhide HV]; simp, unhide HE, by have := unhide HO3; simpa using this, unhide HB3⟩
    case measure => simp [intOf]; omega
end Go.Proofs.YtcblpoeeembniabGreatDoor
