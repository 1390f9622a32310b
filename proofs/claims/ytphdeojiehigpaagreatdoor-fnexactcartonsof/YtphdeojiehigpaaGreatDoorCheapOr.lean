/- Which of two types is dearer: the program. -/
import Derived.Test.YtphdeojiehigpaaGreatDoorCheapPlain
import Derived.Test.YtphdeojiehigpaaGreatDoorAppendSome
import Derived.Test.YtphdeojiehigpaaGreatDoorInvR
import Derived.Test.YtphdeojiehigpaaGreatDoorPkB
import Derived.Deep.DeepMust
import Derived.Deep.DeepCutAuto
import Derived.Deep.RegionHeld3
namespace Go.Proofs.YtphdeojiehigpaaGreatDoor
open Go Go.RowKit
set_option linter.unusedVariables false
set_option linter.unusedSimpArgs false

theorem or2_any (g : Nat) (x y z : Int) (w : World) (hb : Blk w g [.int .i64 x, .int .i64 y]) (hz : z = if x = 0 then y else x) :
    Calls Tryz.prog 93 #[.slice (some ⟨g, 0, none⟩) 2 2] w fun e w' => e = .returned (.int .i64 z) ∧ w' = w := by
  have HZ := hide hz
  clear hz
  have c0 : w.cell? ⟨g, 0, none⟩ = some (.int .i64 x) := (hb 0 (by simp)).1
  have c1 : w.cell? ⟨g, 1, none⟩ = some (.int .i64 y) := (hb 1 (by simp)).1
  clear hb
  go_enter Tryz.func93, Tryz.ntmps93
  go_wp2
  go_loop [8] (fun i => ∃ k : Nat, k ≤ 2 ∧ i = .int .i64 k ∧ (0 < k → x = 0) ∧ (1 < k → y = 0)) (fun i => 2 - (intOf i).toNat)
  case atStart => exact ⟨0, by omega, rfl, fun h => absurd h (by omega), fun h => absurd h (by omega)⟩
  case round =>
    obtain ⟨k, hk, rfl, hx, hy⟩ := hrel
    obtain rfl | rfl | rfl : k = 0 ∨ k = 1 ∨ k = 2 := by omega
    · clear hx hy
      by_cases h0 : x = 0
      · have hne : (x != 0) = false := by simp [h0]
        have HX := hide h0
        clear h0
        go_wp2
        go_round
        case rel => exact ⟨1, by omega, by go_num, fun _ => unhide HX, fun h => absurd h (by omega)⟩
        case measure => simp [intOf]
      · have hne : (x != 0) = true := by simp [h0]
        have HX := hide h0
        clear h0
        go_wp2
        go_ret
        exact ⟨ret_num (by rw [unhide HZ, if_neg (unhide HX)]), rfl⟩
    · have HX := hide (hx (by omega))
      clear hx hy
      by_cases h0 : y = 0
      · have hne : (y != 0) = false := by simp [h0]
        have HY := hide h0
        clear h0
        go_wp2
        go_round
        case rel => exact ⟨2, by omega, by go_num, fun _ => unhide HX, fun _ => unhide HY⟩
        case measure => simp [intOf]
      · have hne : (y != 0) = true := by simp [h0]
        clear h0
        go_wp2
        go_ret
        exact ⟨ret_num (by rw [unhide HZ, if_pos (unhide HX)]), rfl⟩
    · have HX := hide (hx (by omega))
      have HY := hide (hy (by omega))
      clear hx hy
      go_wp2
      go_ret
      exact ⟨ret_num (by rw [unhide HZ, if_pos (unhide HX), unhide HY]), rfl⟩
set_option maxRecDepth 100000 in
set_option maxHeartbeats 4000000 in
theorem byCost_any (s t : TypeV) (w : World) :
    Calls Tryz.prog 55 #[.agg #[.int .i64 s.id, .int .i64 s.wd, .int .i64 s.ht, .int .i64 s.dp, .int .i64 s.tare, .int .i64 s.gram, .int .i64 s.cost], .agg #[.int .i64 t.id, .int .i64 t.wd, .int .i64 t.ht, .int .i64 t.dp, .int .i64 t.tare, .int .i64 t.gram, .int .i64 t.cost]] w fun e w' => e = .returned (.int .i64 (costC s t)) ∧ Below w.heap.size w w' := by
  go_enter Tryz.func55, Tryz.ntmps55
  go_wp2_with fail
  have BW : Hid (Below w.heap.size w ((w.alloc (.cells #[.int .i64 s.id, .int .i64 s.wd, .int .i64 s.ht, .int .i64 s.dp, .int .i64 s.tare, .int .i64 s.gram, .int .i64 s.cost] 55)).alloc (.cells #[.int .i64 t.id, .int .i64 t.wd, .int .i64 t.ht, .int .i64 t.dp, .int .i64 t.tare, .int .i64 t.gram, .int .i64 t.cost] 55))) := (((Below.refl _ _).alloc (by simp) _).alloc (by simp) _)
  have KaW : Hid (Blk ((w.alloc (.cells #[.int .i64 s.id, .int .i64 s.wd, .int .i64 s.ht, .int .i64 s.dp, .int .i64 s.tare, .int .i64 s.gram, .int .i64 s.cost] 55)).alloc (.cells #[.int .i64 t.id, .int .i64 t.wd, .int .i64 t.ht, .int .i64 t.dp, .int .i64 t.tare, .int .i64 t.gram, .int .i64 t.cost] 55)) w.heap.size [.int .i64 s.id, .int .i64 s.wd, .int .i64 s.ht, .int .i64 s.dp, .int .i64 s.tare, .int .i64 s.gram, .int .i64 s.cost]) := ((Blk.allocAt (w := w) [.int .i64 s.id, .int .i64 s.wd, .int .i64 s.ht, .int .i64 s.dp, .int .i64 s.tare, .int .i64 s.gram, .int .i64 s.cost] (by simp)).allocOld (by simp) _)
  have ZaW : w.heap.size < ((w.alloc (.cells #[.int .i64 s.id, .int .i64 s.wd, .int .i64 s.ht, .int .i64 s.dp, .int .i64 s.tare, .int .i64 s.gram, .int .i64 s.cost] 55)).alloc (.cells #[.int .i64 t.id, .int .i64 t.wd, .int .i64 t.ht, .int .i64 t.dp, .int .i64 t.tare, .int .i64 t.gram, .int .i64 t.cost] 55)).heap.size := by simp <;> omega
  have Ga : w.heap.size ≤ w.heap.size := by omega
  have KbW : Hid (Blk ((w.alloc (.cells #[.int .i64 s.id, .int .i64 s.wd, .int .i64 s.ht, .int .i64 s.dp, .int .i64 s.tare, .int .i64 s.gram, .int .i64 s.cost] 55)).alloc (.cells #[.int .i64 t.id, .int .i64 t.wd, .int .i64 t.ht, .int .i64 t.dp, .int .i64 t.tare, .int .i64 t.gram, .int .i64 t.cost] 55)) (w.heap.size + 1) [.int .i64 t.id, .int .i64 t.wd, .int .i64 t.ht, .int .i64 t.dp, .int .i64 t.tare, .int .i64 t.gram, .int .i64 t.cost]) := (Blk.allocAt (w := (w.alloc (.cells #[.int .i64 s.id, .int .i64 s.wd, .int .i64 s.ht, .int .i64 s.dp, .int .i64 s.tare, .int .i64 s.gram, .int .i64 s.cost] 55))) [.int .i64 t.id, .int .i64 t.wd, .int .i64 t.ht, .int .i64 t.dp, .int .i64 t.tare, .int .i64 t.gram, .int .i64 t.cost] (by simp))
  have ZbW : (w.heap.size + 1) < ((w.alloc (.cells #[.int .i64 s.id, .int .i64 s.wd, .int .i64 s.ht, .int .i64 s.dp, .int .i64 s.tare, .int .i64 s.gram, .int .i64 s.cost] 55)).alloc (.cells #[.int .i64 t.id, .int .i64 t.wd, .int .i64 t.ht, .int .i64 t.dp, .int .i64 t.tare, .int .i64 t.gram, .int .i64 t.cost] 55)).heap.size := by simp
  have Gb : w.heap.size ≤ (w.heap.size + 1) := by omega
  have Nqab : w.heap.size ≠ (w.heap.size + 1) := by omega
  have Nqba : (w.heap.size + 1) ≠ w.heap.size := by omega
  generalize ((w.alloc (.cells #[.int .i64 s.id, .int .i64 s.wd, .int .i64 s.ht, .int .i64 s.dp, .int .i64 s.tare, .int .i64 s.gram, .int .i64 s.cost] 55)).alloc (.cells #[.int .i64 t.id, .int .i64 t.wd, .int .i64 t.ht, .int .i64 t.dp, .int .i64 t.tare, .int .i64 t.gram, .int .i64 t.cost] 55)) = W at *
  go_upto_region 1 with fail
  go_cut [4] (fun v wc => v = .int .i64 (costC s t) ∧ Below w.heap.size w wc)
  case first =>
    refine wp_region_noPanic ?_
    have Bu0 : Hid (Below w.heap.size w W.drew) := (unhide BW).drew
    have Kau0 : Hid (Blk W.drew w.heap.size [.int .i64 s.id, .int .i64 s.wd, .int .i64 s.ht, .int .i64 s.dp, .int .i64 s.tare, .int .i64 s.gram, .int .i64 s.cost]) := unhide KaW
    have Zau0 : w.heap.size < W.drew.heap.size := ZaW
    have Kbu0 : Hid (Blk W.drew (w.heap.size + 1) [.int .i64 t.id, .int .i64 t.wd, .int .i64 t.ht, .int .i64 t.dp, .int .i64 t.tare, .int .i64 t.gram, .int .i64 t.cost]) := unhide KbW
    have Zbu0 : (w.heap.size + 1) < W.drew.heap.size := ZbW
    obtain ⟨S, hSdef⟩ : ∃ S : World → Prop, S = (fun w' => w'.cell? ⟨w.heap.size, 6, none⟩ = some (.int .i64 s.cost) ∧ w'.cell? ⟨w.heap.size, 0, none⟩ = some (.int .i64 s.id) ∧ w'.cell? ⟨(w.heap.size + 1), 6, none⟩ = some (.int .i64 t.cost) ∧ w'.cell? ⟨(w.heap.size + 1), 0, none⟩ = some (.int .i64 t.id)) := ⟨_, rfl⟩
    have hSmk : ∀ wq, Blk wq w.heap.size [.int .i64 s.id, .int .i64 s.wd, .int .i64 s.ht, .int .i64 s.dp, .int .i64 s.tare, .int .i64 s.gram, .int .i64 s.cost] → Blk wq (w.heap.size + 1) [.int .i64 t.id, .int .i64 t.wd, .int .i64 t.ht, .int .i64 t.dp, .int .i64 t.tare, .int .i64 t.gram, .int .i64 t.cost] → S wq := fun wq ka kb => by rw [hSdef]; exact ⟨(ka 6 (by simp)).1, (ka 0 (by simp)).1, (kb 6 (by simp)).1, (kb 0 (by simp)).1⟩
    have hSd : ∀ wq, S wq → (fun w' => w'.cell? ⟨w.heap.size, 6, none⟩ = some (.int .i64 s.cost) ∧ w'.cell? ⟨w.heap.size, 0, none⟩ = some (.int .i64 s.id) ∧ w'.cell? ⟨(w.heap.size + 1), 6, none⟩ = some (.int .i64 t.cost) ∧ w'.cell? ⟨(w.heap.size + 1), 0, none⟩ = some (.int .i64 t.id)) wq := fun wq h => by rw [hSdef] at h; exact h
    clear hSdef
    have hHeld : S W.drew := hSmk W.drew (unhide Kau0) (unhide Kbu0)
    refine wp_region_to (S := S) (T := []) (by kernel_rfl) hHeld (fun _ => ?_)
    generalize W.drew = u0 at *
    refine wpTo_tk (i := 0) (v := ?_) rfl (by kernel_rfl) (Or.inl ⟨by rfl, ?_⟩) (by assumption) ?_
    rotate_left
    · intro w hSw
      have hSw := hSd _ hSw
      (try dsimp only at hSw)
      go_simp <;> with_reducible rfl
    refine wpTo_tk (i := 1) (v := ?_) rfl (by kernel_rfl) (Or.inl ⟨by rfl, ?_⟩) (by assumption) ?_
    rotate_left
    · intro w hSw
      have hSw := hSd _ hSw
      (try dsimp only at hSw)
      go_simp <;> with_reducible rfl
    refine wpTo_tk (i := 2) (v := ?_) rfl (by kernel_rfl) (Or.inl ⟨by rfl, ?_⟩) (by assumption) ?_
    rotate_left
    · intro w hSw
      have hSw := hSd _ hSw
      (try dsimp only at hSw)
      go_simp <;> with_reducible rfl
    refine wpTo_tk (i := 3) (v := ?_) rfl (by kernel_rfl) (Or.inl ⟨by rfl, ?_⟩) (by assumption) ?_
    rotate_left
    · intro w hSw
      have hSw := hSd _ hSw
      (try dsimp only at hSw)
      go_simp <;> with_reducible rfl
    refine wpTo_tk (i := 5) (v := ?_) rfl (by kernel_rfl) (Or.inl ⟨by rfl, ?_⟩) (by assumption) ?_
    rotate_left
    · intro w hSw
      have hSw := hSd _ hSw
      (try dsimp only at hSw)
      go_simp <;> with_reducible rfl
    refine wpTo_tk (i := 6) (v := ?_) rfl (by kernel_rfl) (Or.inl ⟨by rfl, ?_⟩) (by assumption) ?_
    rotate_left
    · intro w hSw
      have hSw := hSd _ hSw
      (try dsimp only at hSw)
      go_simp <;> with_reducible rfl
    refine wpTo_tk (i := 7) (v := ?_) rfl (by kernel_rfl) (Or.inl ⟨by rfl, ?_⟩) (by assumption) ?_
    rotate_left
    · intro w hSw
      have hSw := hSd _ hSw
      (try dsimp only at hSw)
      go_simp <;> with_reducible rfl
    refine wpTo_tk (i := 8) (v := ?_) rfl (by kernel_rfl) (Or.inl ⟨by rfl, ?_⟩) (by assumption) ?_
    rotate_left
    · intro w hSw
      have hSw := hSd _ hSw
      (try dsimp only at hSw)
      go_simp <;> with_reducible rfl
    try simp only [Act.put, List.getElem_toArray, List.getElem_cons_zero, List.getElem_cons_succ, List.setIfInBounds_toArray, List.set_cons_zero, List.set_cons_succ]
    refine wpTo_inv (fun a0 listed ai wi => ∃ (b4 b9 b10 b11 b12 : Bool) (gl : Nat), listed = #[true, true, true, true, b4, true, true, true, true, b9, b10, b11, b12] ∧ ai = fillS b12 4 (.int .i64 (costC s t)) (fillS b11 16 (.int .i64 (costC s t)) (fillS b10 15 (.slice (some ⟨gl, 0, none⟩) 2 2) (fillS b9 14 (.int .i64 (cmpI s.id t.id)) (fillS b4 9 (.int .i64 (cmpI s.cost t.cost)) (a0))))) ∧ Hid (Below u0.heap.size u0 wi) ∧ Hid (Tk b10 → Blk wi gl [.int .i64 (cmpI s.cost t.cost), .int .i64 (cmpI s.id t.id)] ∧ gl < wi.heap.size ∧ u0.heap.size ≤ gl) ∧ Hid (Tk b9 → Tk b4) ∧ Hid (Tk b10 → Tk b4 ∧ Tk b9) ∧ Hid (Tk b11 → Tk b4 ∧ Tk b9 ∧ Tk b10) ∧ Hid (Tk b12 → Tk b4 ∧ Tk b9 ∧ Tk b10 ∧ Tk b11)) ⟨false, false, false, false, false, 0, rfl, by simp only [fillS_false], (Below.refl _ _), (fun h => by cases h), (fun h => by cases h), (fun h => by cases h), (fun h => by cases h), (fun h => by cases h)⟩ ?hS ?hT ?step ?fin _ (by decide)
    case hS =>
      rintro listed ai wi ⟨b4, b9, b10, b11, b12, gl, rfl, ha, FB, FKl, FC9, FC10, FC11, FC12⟩ hTf
      exact hSmk wi (Blk.below ((unhide FB)) Zau0 (unhide Kau0)) (Blk.below ((unhide FB)) Zbu0 (unhide Kbu0))
    case hT =>
      exact fun _ _ _ _ f hf => by cases hf
    case step =>
      rintro listed ai wi i o ⟨b4, b9, b10, b11, b12, gl, rfl, ha, FB, FKl, FC9, FC10, FC11, FC12⟩ ho hl hall
      have hi : i < 13 := (Array.getElem?_eq_some_iff.1 ho).1
      obtain rfl | rfl | rfl | rfl | rfl | rfl | rfl | rfl | rfl | rfl | rfl | rfl | rfl : i = 0 ∨ i = 1 ∨ i = 2 ∨ i = 3 ∨ i = 4 ∨ i = 5 ∨ i = 6 ∨ i = 7 ∨ i = 8 ∨ i = 9 ∨ i = 10 ∨ i = 11 ∨ i = 12 := by omega
      · exact absurd hl (by simp)
      · exact absurd hl (by simp)
      · exact absurd hl (by simp)
      · exact absurd hl (by simp)
      · obtain rfl := Option.some.inj ho
        obtain rfl : b4 = false := by simpa using hl
        obtain rfl : b9 = false := Tk_no (fun p => by have h8 := (unhide FC9) p; simp [Tk] at h8)
        obtain rfl : b10 = false := Tk_no (fun p => by have h8 := (unhide FC10) p; simp [Tk] at h8)
        obtain rfl : b11 = false := Tk_no (fun p => by have h8 := (unhide FC11) p; simp [Tk] at h8)
        obtain rfl : b12 = false := Tk_no (fun p => by have h8 := (unhide FC12) p; simp [Tk] at h8)
        clear ho hl hall hi
        simp only [fillS, pickS_true, pickS_false, Act.put, Array.getD_eq_getD_getElem?, List.getElem?_toArray, List.getElem?_cons_zero, List.getElem?_cons_succ, Option.getD_some, List.getElem_toArray, List.getElem_cons_zero, List.getElem_cons_succ, List.setIfInBounds_toArray, List.set_cons_zero, List.set_cons_succ] at ha
        subst ha
        refine wpOp_stepS (o := _) rfl (fun K hK => ?_)
        go_simp
        refine (compare_any s.cost t.cost wi).mono ?_
        rintro e wz ⟨rfl, hwz⟩
        subst wz
        go_wp2_with fail
        refine hK.out _ _ ?_
        exact ⟨true, false, false, false, false, gl, rfl, by simp only [fillS, pickS_true, pickS_false, Act.put, Array.getD_eq_getD_getElem?, List.getElem?_toArray, List.getElem?_cons_zero, List.getElem?_cons_succ, Option.getD_some, List.getElem_toArray, List.getElem_cons_zero, List.getElem_cons_succ, List.setIfInBounds_toArray, List.set_cons_zero, List.set_cons_succ], ((unhide FB)), (fun p10 => (by cases p10)), (fun p9 => (by cases p9)), (fun p10 => (by cases p10)), (fun p11 => (by cases p11)), (fun p12 => (by cases p12))⟩
      · exact absurd hl (by simp)
      · exact absurd hl (by simp)
      · exact absurd hl (by simp)
      · exact absurd hl (by simp)
      · obtain rfl := Option.some.inj ho
        obtain rfl : b9 = false := by simpa using hl
        obtain rfl : b4 = true := by simpa using hall ⟨4, .chain⟩ (by simp) rfl
        obtain rfl : b10 = false := Tk_no (fun p => by have h8 := (unhide FC10) p; simp [Tk] at h8)
        obtain rfl : b11 = false := Tk_no (fun p => by have h8 := (unhide FC11) p; simp [Tk] at h8)
        obtain rfl : b12 = false := Tk_no (fun p => by have h8 := (unhide FC12) p; simp [Tk] at h8)
        clear ho hl hall hi
        simp only [fillS, pickS_true, pickS_false, Act.put, Array.getD_eq_getD_getElem?, List.getElem?_toArray, List.getElem?_cons_zero, List.getElem?_cons_succ, Option.getD_some, List.getElem_toArray, List.getElem_cons_zero, List.getElem_cons_succ, List.setIfInBounds_toArray, List.set_cons_zero, List.set_cons_succ] at ha
        subst ha
        refine wpOp_stepS (o := _) rfl (fun K hK => ?_)
        go_simp
        refine (compare_any s.id t.id wi).mono ?_
        rintro e wz ⟨rfl, hwz⟩
        subst wz
        go_wp2_with fail
        refine hK.out _ _ ?_
        exact ⟨true, true, false, false, false, gl, rfl, by simp only [fillS, pickS_true, pickS_false, Act.put, Array.getD_eq_getD_getElem?, List.getElem?_toArray, List.getElem?_cons_zero, List.getElem?_cons_succ, Option.getD_some, List.getElem_toArray, List.getElem_cons_zero, List.getElem_cons_succ, List.setIfInBounds_toArray, List.set_cons_zero, List.set_cons_succ], ((unhide FB)), (fun p10 => (by cases p10)), (fun p9 => rfl), (fun p10 => (by cases p10)), (fun p11 => (by cases p11)), (fun p12 => (by cases p12))⟩
      · obtain rfl := Option.some.inj ho
        obtain rfl : b10 = false := by simpa using hl
        obtain rfl : b4 = true := by simpa using hall ⟨4, .data⟩ (by simp) rfl
        obtain rfl : b9 = true := by simpa using hall ⟨9, .data⟩ (by simp) rfl
        obtain rfl : b11 = false := Tk_no (fun p => by have h8 := (unhide FC11) p; simp [Tk] at h8)
        obtain rfl : b12 = false := Tk_no (fun p => by have h8 := (unhide FC12) p; simp [Tk] at h8)
        clear ho hl hall hi
        simp only [fillS, pickS_true, pickS_false, Act.put, Array.getD_eq_getD_getElem?, List.getElem?_toArray, List.getElem?_cons_zero, List.getElem?_cons_succ, Option.getD_some, List.getElem_toArray, List.getElem_cons_zero, List.getElem_cons_succ, List.setIfInBounds_toArray, List.set_cons_zero, List.set_cons_succ] at ha
        subst ha
        refine wpOp_stepS (o := _) rfl (fun K hK => ?_)
        go_simp
        refine hK.out _ _ ?_
        exact ⟨true, true, true, false, false, wi.heap.size, rfl, by simp only [fillS, pickS_true, pickS_false, Act.put, Array.getD_eq_getD_getElem?, List.getElem?_toArray, List.getElem?_cons_zero, List.getElem?_cons_succ, Option.getD_some, List.getElem_toArray, List.getElem_cons_zero, List.getElem_cons_succ, List.setIfInBounds_toArray, List.set_cons_zero, List.set_cons_succ], (((unhide FB).alloc (unhide FB).size _)), (fun p10 => ⟨Blk.allocAt [.int .i64 (cmpI s.cost t.cost), .int .i64 (cmpI s.id t.id)] (by rfl), lt_alloc_new wi _, ((unhide FB)).size⟩), (fun p9 => (unhide FC9 p9)), (fun p10 => ⟨rfl, rfl⟩), (fun p11 => (by cases p11)), (fun p12 => (by cases p12))⟩
      · obtain rfl := Option.some.inj ho
        obtain rfl : b11 = false := by simpa using hl
        obtain rfl : b10 = true := by simpa using hall ⟨10, .data⟩ (by simp) rfl
        obtain ⟨rfl, rfl⟩ := (unhide FC10) rfl
        obtain rfl : b12 = false := Tk_no (fun p => by have h8 := (unhide FC12) p; simp [Tk] at h8)
        clear ho hl hall hi
        simp only [fillS, pickS_true, pickS_false, Act.put, Array.getD_eq_getD_getElem?, List.getElem?_toArray, List.getElem?_cons_zero, List.getElem?_cons_succ, Option.getD_some, List.getElem_toArray, List.getElem_cons_zero, List.getElem_cons_succ, List.setIfInBounds_toArray, List.set_cons_zero, List.set_cons_succ] at ha
        subst ha
        refine wpOp_stepS (o := _) rfl (fun K hK => ?_)
        go_simp
        refine (or2_any gl _ _ (costC s t) wi ((unhide FKl) rfl).1 rfl).mono ?_
        rintro e wz ⟨rfl, hwz⟩
        subst wz
        go_wp2_with fail
        refine hK.out _ _ ?_
        exact ⟨true, true, true, true, false, gl, rfl, by simp only [fillS, pickS_true, pickS_false, Act.put, Array.getD_eq_getD_getElem?, List.getElem?_toArray, List.getElem?_cons_zero, List.getElem?_cons_succ, Option.getD_some, List.getElem_toArray, List.getElem_cons_zero, List.getElem_cons_succ, List.setIfInBounds_toArray, List.set_cons_zero, List.set_cons_succ], ((unhide FB)), (fun p10 => (unhide FKl p10)), (fun p9 => (unhide FC9 p9)), (fun p10 => (unhide FC10 p10)), (fun p11 => ⟨rfl, rfl, rfl⟩), (fun p12 => (by cases p12))⟩
      · obtain rfl := Option.some.inj ho
        obtain rfl : b12 = false := by simpa using hl
        obtain rfl : b11 = true := by simpa using hall ⟨11, .data⟩ (by simp) rfl
        obtain ⟨rfl, rfl, rfl⟩ := (unhide FC11) rfl
        clear ho hl hall hi
        simp only [fillS, pickS_true, pickS_false, Act.put, Array.getD_eq_getD_getElem?, List.getElem?_toArray, List.getElem?_cons_zero, List.getElem?_cons_succ, Option.getD_some, List.getElem_toArray, List.getElem_cons_zero, List.getElem_cons_succ, List.setIfInBounds_toArray, List.set_cons_zero, List.set_cons_succ] at ha
        subst ha
        refine wpOp_stepS (o := _) rfl (fun K hK => ?_)
        go_simp
        refine hK.out _ _ ?_
        exact ⟨true, true, true, true, true, gl, rfl, by simp only [fillS, pickS_true, pickS_false, Act.put, Array.getD_eq_getD_getElem?, List.getElem?_toArray, List.getElem?_cons_zero, List.getElem?_cons_succ, Option.getD_some, List.getElem_toArray, List.getElem_cons_zero, List.getElem_cons_succ, List.setIfInBounds_toArray, List.set_cons_zero, List.set_cons_succ], ((unhide FB)), (fun p10 => (unhide FKl p10)), (fun p9 => (unhide FC9 p9)), (fun p10 => (unhide FC10 p10)), (fun p11 => (unhide FC11 p11)), (fun p12 => ⟨rfl, rfl, rfl, rfl⟩)⟩
    case fin =>
      rintro listed ai wi ⟨b4, b9, b10, b11, b12, gl, rfl, ha, FB, FKl, FC9, FC10, FC11, FC12⟩ hall
      obtain rfl : b4 = true := by
        have h9 := hall 4 _ rfl (by
          intro e he hbd
          simp at he
          rcases he with rfl | rfl <;> simp
          )
        simpa using h9
      obtain rfl : b9 = true := by
        have h9 := hall 9 _ rfl (by
          intro e he hbd
          simp at he
          rcases he with rfl | rfl | rfl <;> simp
          )
        simpa using h9
      obtain rfl : b10 = true := by
        have h9 := hall 10 _ rfl (by
          intro e he hbd
          simp at he
          rcases he with rfl | rfl <;> simp
          )
        simpa using h9
      obtain rfl : b11 = true := by
        have h9 := hall 11 _ rfl (by
          intro e he hbd
          simp at he
          rcases he with rfl | rfl <;> simp
          )
        simpa using h9
      obtain rfl : b12 = true := by
        have h9 := hall 12 _ rfl (by
          intro e he hbd
          simp at he
          rcases he with rfl | rfl | rfl | rfl | rfl | rfl | rfl | rfl | rfl | rfl | rfl | rfl | rfl | rfl <;> simp
          )
        simpa using h9
      clear hall
      simp only [fillS, pickS_true, pickS_false, Act.put, Array.getD_eq_getD_getElem?, List.getElem?_toArray, List.getElem?_cons_zero, List.getElem?_cons_succ, Option.getD_some, List.getElem_toArray, List.getElem_cons_zero, List.getElem_cons_succ, List.setIfInBounds_toArray, List.set_cons_zero, List.set_cons_succ] at ha
      subst ha
      refine NoPanic.normal ?_
      have Bwi := hide ((unhide Bu0).trans ((unhide FB).mono (unhide Bu0).size))
      have Kawi := hide (Blk.below (unhide FB) Zau0 (unhide Kau0))
      have Zawi := Nat.lt_of_lt_of_le Zau0 (unhide FB).size
      have Kbwi := hide (Blk.below (unhide FB) Zbu0 (unhide Kbu0))
      have Zbwi := Nat.lt_of_lt_of_le Zbu0 (unhide FB).size
      have Klwi := hide ((unhide FKl) rfl).1
      have Zlwi := ((unhide FKl) rfl).2.1
      have Gl := Nat.le_trans (unhide Bu0).size ((unhide FKl) rfl).2.2
      clear FB FKl FC9 FC10 FC11 FC12
      go_wp2_with fail
      go_meet
      case rel => exact ⟨rfl, unhide Bwi⟩
  case rest =>
    obtain ⟨rfl, hb⟩ := hcut
    have HB := hide hb
    clear hb
    go_wp2
    go_ret
    exact ⟨rfl, unhide HB⟩
end Go.Proofs.YtphdeojiehigpaaGreatDoor
