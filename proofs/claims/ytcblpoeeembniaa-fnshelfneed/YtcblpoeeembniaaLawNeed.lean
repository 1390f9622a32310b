/- laws.FnShelfNeed: a shelf's first box found no room on the one ahead; it is as deep as that box. -/
import Derived.Test.YtcblpoeeembniaaNeedPlain
import Derived.Test.YtcblpoeeembniaaSpecShelves
import Derived.Test.YtcblpoeeembniaaDrawBoxes
import Derived.Deep.DeepMust
import Derived.Deep.DeepCutAuto
import Derived.Deep.RegionHeld3
namespace Go.Proofs.Ytcblpoeeembniaa
open Go Go.RowKit
set_option linter.unusedVariables false
set_option linter.unusedSimpArgs false
theorem rdBltN {w : World} {a : Option Addr} {n : Nat} {zs : List Int} (h : RdB w a n zs) (h0 : 0 < n) (x : Addr) (hx : a = some x) : x.block < w.heap.size := by
 obtain ⟨b, off, ha, hc, _⟩ := h.2 0 h0
 rw [hx] at ha
 cases ha
 exact World.block_lt_of_cell? w _ hc
theorem need_bd {p : PalletV} {bs : List BoxV} {i : Nat} (hi : i < (shelvesR p bs).length) : palletB p.wd p.dp p.ht p.gram = true ∧ ShelfOk p ((shelvesR p bs).getD i default) ∧ ∀ j, j < bs.length → boxB p (bs.getD j default) = true := by
 by_cases hb : boxesB p bs = true
 · refine ⟨boxesB_pal hb, ?_, fun j hj => boxesB_in hb hj⟩
   have e : shelvesR p bs = shelvesTo p bs (orderB bs) := by rw [shelvesR, if_pos hb]
   rw [e] at hi ⊢
   exact shelvesTo_ok _ _ (fun s hs => by cases hs) (fun i hi => boxesB_in hb (orderB_in hi)) _ (getD_mem hi)
 · rw [shelvesR, if_neg hb] at hi
   exact absurd hi (Nat.not_lt_zero _)
set_option maxRecDepth 100000 in
set_option maxHeartbeats 8000000 in
theorem law_need (a : Option Addr) (n c : Nat) (zs : List Int) (w : World) (hr : RdB w a n zs) (hm : n ≤ maxLen) :
 Calls Try.prog 8 #[.slice a n c] w fun e w' => e = .returned (.bool true) ∧ Below w.heap.size w w' := by
 unfold maxLen at hm
 by_cases hn : n ≤ 1048576
 case neg =>
  have hgt : (1048576 : Int) < (n : Int) := by omega
  go_enter Try.func8, Try.ntmps8
  go_wp2_with (first | (go_at_call 27; go_in) | fail)
  go_ret
  exact ⟨rfl, Below.refl _ _⟩
 have hgt : ¬ (1048576 : Int) < (n : Int) := by omega
 have HR := hide hr
 clear hr
 go_enter Try.func8, Try.ntmps8
 go_wp2_with (first | (go_at_call 27; go_in) | fail)
 refine (drawShelves_any a n c zs w HR.out hn (rdBltN HR.out)).mono ?_
 rintro e w1 ⟨p, g, cap, bs, rfl, hb12, hbx, hb1, hgl⟩
 clear HR
 have Hw1 : Hid (Below w.heap.size w w1) := hb1
 have Qyw1 : Hid (RdR BoxV.cells 4 w1 (some ⟨g, 0, none⟩) bs.length bs) := hbx
 clear hb1 hbx
 obtain ⟨N, hN⟩ : ∃ N, N = (shelvesR p bs).length := ⟨_, rfl⟩
 have hNb : N ≤ 12 := by have h1 := (shelves_size p bs (orderB bs) []).2; rw [orderB_len] at h1; rw [hN, shelvesR]; split; (have h2 : (shelvesTo p bs (orderB bs)).length ≤ bs.length := by simpa [shelvesTo] using h1); (omega); (simp)
 have HN := hide hN
 clear hN
 go_wp2_with fail
 generalize hW : (w1.alloc (.cells #[.int .i64 p.wd, .int .i64 p.dp, .int .i64 p.ht, .int .i64 p.gram] 27)) = w2 at *
 obtain ⟨hb, Kxw2, zxw2⟩ := en1 hW
 have hb := unhide hb
 have Hw2 : Hid (Below w.heap.size w w2) := Hw1.out.trans (hb.mono Hw1.out.size)
 have Qyw2 : Hid (RdR BoxV.cells 4 w2 (some ⟨g, 0, none⟩) bs.length bs) := RdR.mono (by omega) BoxV.len Qyw1.out hb
 clear Hw1 Qyw1
 clear hb hW
 refine (shelves_any p _ bs.length cap bs _ Qyw2.out (by omega)).mono ?_
 rintro e w3 ⟨g7, cap7, xs, rfl, ho7, hm7, hbw3⟩
 have hl7 : xs.length = N := by rw [unhide HN, ← hm7, List.length_map]
 rw [hl7]
 have HM := hide hm7
 have HL := hide hl7
 clear hm7 hl7
 have Hw3 : Hid (Below w.heap.size w w3) := Hw2.out.trans (hbw3.mono Hw2.out.size)
 have Kxw3 := hide (Blk.below hbw3 zxw2 Kxw2.out)
 have zxw3 : w1.heap.size < w3.heap.size := Nat.lt_of_lt_of_le zxw2 hbw3.size
 have Qyw3 : Hid (RdR BoxV.cells 4 w3 (some ⟨g, 0, none⟩) bs.length bs) := RdR.mono (by omega) BoxV.len Qyw2.out hbw3
 clear Hw2 Kxw2 zxw2 Qyw2
 clear hbw3
 have Quw3 : Hid (OwnShelf w3 w2.heap.size g7 cap7 xs) := ho7
 clear ho7
 have hne : ((N : Int) != (N : Int)) = false := by simp
 go_upto_region 5 with fail
 go_cut [42] (fun v wc => v = .bool false ∧ Below w3.heap.size w3 wc)
 case first =>
  by_cases hNz : N = 0
  · have hNi : ¬ (0 : Int) < (N : Int) := by omega
    clear hNz
    have Bw3 : Hid (Below w3.heap.size w3 w3) := Below.refl _ _
    have X0 : Hid (w3.cell? ⟨w1.heap.size, 0, none⟩ = some (.int .i64 p.wd)) := (Kxw3.out 0 (by simp)).1
    have X1 : Hid (w3.cell? ⟨w1.heap.size, 1, none⟩ = some (.int .i64 p.dp)) := (Kxw3.out 1 (by simp)).1
    have X2 : Hid (w3.cell? ⟨w1.heap.size, 2, none⟩ = some (.int .i64 p.ht)) := (Kxw3.out 2 (by simp)).1
    have X3 : Hid (w3.cell? ⟨w1.heap.size, 3, none⟩ = some (.int .i64 p.gram)) := (Kxw3.out 3 (by simp)).1
    refine wp_region_noPanic ?_
    have Bu0 : Hid (Below w3.heap.size w3 w3.drew) := Bw3.out.drew
    obtain ⟨S, hSdef⟩ : ∃ S : World → Prop, S = (fun w' => w'.cell? ⟨w1.heap.size, 0, none⟩ = some (.int .i64 p.wd) ∧ w'.cell? ⟨w1.heap.size, 1, none⟩ = some (.int .i64 p.dp) ∧ w'.cell? ⟨w1.heap.size, 2, none⟩ = some (.int .i64 p.ht) ∧ w'.cell? ⟨w1.heap.size, 3, none⟩ = some (.int .i64 p.gram)) := ⟨_, rfl⟩
    have hSmk : ∀ wq, (wq.cell? ⟨w1.heap.size, 0, none⟩ = some (.int .i64 p.wd)) → (wq.cell? ⟨w1.heap.size, 1, none⟩ = some (.int .i64 p.dp)) → (wq.cell? ⟨w1.heap.size, 2, none⟩ = some (.int .i64 p.ht)) → (wq.cell? ⟨w1.heap.size, 3, none⟩ = some (.int .i64 p.gram)) → S wq := fun wq p0 p1 p2 p3 => by rw [hSdef]; exact ⟨p0, p1, p2, p3⟩
    have hSd : ∀ wq, S wq → (fun w' => w'.cell? ⟨w1.heap.size, 0, none⟩ = some (.int .i64 p.wd) ∧ w'.cell? ⟨w1.heap.size, 1, none⟩ = some (.int .i64 p.dp) ∧ w'.cell? ⟨w1.heap.size, 2, none⟩ = some (.int .i64 p.ht) ∧ w'.cell? ⟨w1.heap.size, 3, none⟩ = some (.int .i64 p.gram)) wq := fun wq h => by rw [hSdef] at h; exact h
    clear hSdef
    have hHeld : S w3.drew := hSmk w3.drew ((Bu0.out.cell (p := ⟨w1.heap.size, 0, none⟩) zxw3).trans X0.out) ((Bu0.out.cell (p := ⟨w1.heap.size, 1, none⟩) zxw3).trans X1.out) ((Bu0.out.cell (p := ⟨w1.heap.size, 2, none⟩) zxw3).trans X2.out) ((Bu0.out.cell (p := ⟨w1.heap.size, 3, none⟩) zxw3).trans X3.out)
    refine wp_region_to (S := S) (T := []) (by kernel_rfl) hHeld (fun _ => ?_)
    generalize w3.drew = u0 at *
    refine wpTo_ts (i := 0) (v := ?_) rfl (by kernel_rfl) hSd (by rfl) (fun w hSw => ?_) (by assumption) ?_
    rotate_left
    · ((try dsimp only [RqC] at hSw); go_simp <;> with_reducible rfl)
    refine wpTo_ts (i := 1) (v := ?_) rfl (by kernel_rfl) hSd (by rfl) (fun w hSw => ?_) (by assumption) ?_
    rotate_left
    · ((try dsimp only [RqC] at hSw); go_simp <;> with_reducible rfl)
    refine wpTo_ts (i := 2) (v := ?_) rfl (by kernel_rfl) hSd (by rfl) (fun w hSw => ?_) (by assumption) ?_
    rotate_left
    · ((try dsimp only [RqC] at hSw); go_simp <;> with_reducible rfl)
    try simp only [Act.put, zz1, zz2, zz3, zz4, zz5, zz6]
    refine wpTo_ts (i := 3) (v := ?_) rfl (by kernel_rfl) hSd (by rfl) (fun w hSw => ?_) (by assumption) ?_
    rotate_left
    · ((try dsimp only [RqC] at hSw); go_simp <;> with_reducible rfl)
    try simp only [Act.put, zz1, zz2, zz3, zz4, zz5, zz6]
    refine wpTo_ready (rs := [4]) (by kernel_rfl) (by simp) ?_
    refine AllTo.cons (o := _) rfl (fun K hK => ?_) ?_
    ·
     (try simp only [zz1, zz2, zz3])
     go_simp
     refine (specShelves_any p _ bs.length cap bs u0 (Qyw3.out.mono (by omega) BoxV.len Bu0.out) (by omega)).mono ?_
     rintro e u1 ⟨gA, cA, xA, rfl, hoA, hmA, hb⟩
     have Bu1 := hide (Bu0.out.trans (hb.mono Bu0.out.size))
     have hlA : xA.length = N := by rw [unhide HN, ← hmA, List.length_map]
     rw [hlA]
     have HOA := hide hoA
     have HMA := hide hmA
     have HLA := hide hlA
     clear hoA hmA hlA
     clear hb
     clear Bu0 
     clear hHeld
     go_wp2_with fail
     have hHeld := hSmk u1 ((Bu1.out.cell (p := ⟨w1.heap.size, 0, none⟩) zxw3).trans X0.out) ((Bu1.out.cell (p := ⟨w1.heap.size, 1, none⟩) zxw3).trans X1.out) ((Bu1.out.cell (p := ⟨w1.heap.size, 2, none⟩) zxw3).trans X2.out) ((Bu1.out.cell (p := ⟨w1.heap.size, 3, none⟩) zxw3).trans X3.out)
     refine hK.out _ _ (fun _ => hHeld) ?_
     clear hK K
     try simp only [Act.put, zz1, zz2, zz3, zz4, zz5, zz6]
     refine wpTo_ts (i := 5) (v := ?_) rfl (by kernel_rfl) hSd (by rfl) (fun w hSw => ?_) (by assumption) ?_
     rotate_left
     · ((try dsimp only [RqC] at hSw); go_simp <;> with_reducible rfl)
     refine wpTo_ts (i := 6) (v := ?_) rfl (by kernel_rfl) hSd (by rfl) (fun w hSw => ?_) (by assumption) ?_
     rotate_left
     · ((try dsimp only [RqC] at hSw); go_simp <;> with_reducible rfl)
     refine wpTo_ts (i := 7) (v := ?_) rfl (by kernel_rfl) hSd (by rfl) (fun w hSw => ?_) (by assumption) ?_
     rotate_left
     · ((try dsimp only [RqC] at hSw); go_simp <;> with_reducible rfl)
     try simp only [Act.put, zz1, zz2, zz3, zz4, zz5, zz6]
     refine wpTo_ts (i := 8) (v := ?_) rfl (by kernel_rfl) hSd (by rfl) (fun w hSw => ?_) (by assumption) ?_
     rotate_left
     · ((try dsimp only [RqC] at hSw); go_simp <;> with_reducible rfl)
     refine wpTo_ts (i := 9) (v := ?_) rfl (by kernel_rfl) hSd (by rfl) (fun w hSw => ?_) (by assumption) ?_
     rotate_left
     · ((try dsimp only [RqC] at hSw); go_simp <;> with_reducible rfl)
     refine wpTo_ts (i := 10) (v := ?_) rfl (by kernel_rfl) hSd (by rfl) (fun w hSw => ?_) (by assumption) ?_
     rotate_left
     · ((try dsimp only [RqC] at hSw); go_simp <;> with_reducible rfl)
     try simp only [Act.put, zz1, zz2, zz3, zz4, zz5, zz6]
     first | rw [show decide ((0 : Int) < (N : Int)) = false from decide_eq_false hNi] | rw [show decide (0 < N) = false from decide_eq_false (by omega)] | skip
     refine wpTo_ts (i := 11) (v := ?_) rfl (by kernel_rfl) hSd (by rfl) (fun w hSw => ?_) (by assumption) ?_
     rotate_left
     · ((try dsimp only [RqC] at hSw); go_simp <;> with_reducible rfl)
     try simp only [Act.put, zz1, zz2, zz3, zz4, zz5, zz6]
     refine wpTo_tk (i := 12) (v := undef) rfl (by kernel_rfl) (Or.inr ⟨by rfl, rfl⟩) (by assumption) ?_
     try simp only [Act.put, zz1, zz2, zz3, zz4, zz5, zz6]
     refine wpTo_tk (i := 13) (v := undef) rfl (by kernel_rfl) (Or.inr ⟨by rfl, rfl⟩) (by assumption) ?_
     try simp only [Act.put, zz1, zz2, zz3, zz4, zz5, zz6]
     refine wpTo_tk (i := 14) (v := undef) rfl (by kernel_rfl) (Or.inr ⟨by rfl, rfl⟩) (by assumption) ?_
     try simp only [Act.put, zz1, zz2, zz3, zz4, zz5, zz6]
     refine wpTo_tk (i := 15) (v := undef) rfl (by kernel_rfl) (Or.inr ⟨by rfl, rfl⟩) (by assumption) ?_
     try simp only [Act.put, zz1, zz2, zz3, zz4, zz5, zz6]
     refine wpTo_tk (i := 16) (v := undef) rfl (by kernel_rfl) (Or.inr ⟨by rfl, rfl⟩) (by assumption) ?_
     try simp only [Act.put, zz1, zz2, zz3, zz4, zz5, zz6]
     refine wpTo_tk (i := 17) (v := undef) rfl (by kernel_rfl) (Or.inr ⟨by rfl, rfl⟩) (by assumption) ?_
     try simp only [Act.put, zz1, zz2, zz3, zz4, zz5, zz6]
     refine wpTo_tk (i := 18) (v := undef) rfl (by kernel_rfl) (Or.inr ⟨by rfl, rfl⟩) (by assumption) ?_
     try simp only [Act.put, zz1, zz2, zz3, zz4, zz5, zz6]
     refine wpTo_tk (i := 19) (v := undef) rfl (by kernel_rfl) (Or.inr ⟨by rfl, rfl⟩) (by assumption) ?_
     try simp only [Act.put, zz1, zz2, zz3, zz4, zz5, zz6]
     refine wpTo_tk (i := 20) (v := undef) rfl (by kernel_rfl) (Or.inr ⟨by rfl, rfl⟩) (by assumption) ?_
     try simp only [Act.put, zz1, zz2, zz3, zz4, zz5, zz6]
     refine wpTo_tk (i := 21) (v := undef) rfl (by kernel_rfl) (Or.inr ⟨by rfl, rfl⟩) (by assumption) ?_
     try simp only [Act.put, zz1, zz2, zz3, zz4, zz5, zz6]
     refine wpTo_tk (i := 22) (v := undef) rfl (by kernel_rfl) (Or.inr ⟨by rfl, rfl⟩) (by assumption) ?_
     try simp only [Act.put, zz1, zz2, zz3, zz4, zz5, zz6]
     refine wpTo_ts (i := 23) (v := ?_) rfl (by kernel_rfl) hSd (by rfl) (fun w hSw => ?_) (by assumption) ?_
     rotate_left
     · ((try dsimp only [RqC] at hSw); go_simp <;> with_reducible rfl)
     try simp only [Act.put, zz1, zz2, zz3, zz4, zz5, zz6]
     refine wpTo_ts (i := 24) (v := ?_) rfl (by kernel_rfl) hSd (by rfl) (fun w hSw => ?_) (by assumption) ?_
     rotate_left
     · ((try dsimp only [RqC] at hSw); go_simp <;> with_reducible rfl)
     try simp only [Act.put, zz1, zz2, zz3, zz4, zz5, zz6]
     refine wpTo_done (by kernel_rfl) ?_ _
     refine NoPanic.normal ?_
     go_wp2_with fail
     go_meet
     case rel => exact ⟨rfl, unhide Bu1⟩
    exact AllTo.nil
  · have hNp : 0 < N := by omega
    have hNi : (0 : Int) < (N : Int) := by omega
    obtain ⟨v0, hv0⟩ : ∃ v, ((shelvesR p bs).getD 0 default).wd = v := ⟨_, rfl⟩
    have HV := hide hv0
    have hne0 : (v0 != v0) = false := by simp
    clear hv0
    have Bw3 : Hid (Below w3.heap.size w3 w3) := Below.refl _ _
    have X0 : Hid (w3.cell? ⟨w1.heap.size, 0, none⟩ = some (.int .i64 p.wd)) := (Kxw3.out 0 (by simp)).1
    have X1 : Hid (w3.cell? ⟨w1.heap.size, 1, none⟩ = some (.int .i64 p.dp)) := (Kxw3.out 1 (by simp)).1
    have X2 : Hid (w3.cell? ⟨w1.heap.size, 2, none⟩ = some (.int .i64 p.ht)) := (Kxw3.out 2 (by simp)).1
    have X3 : Hid (w3.cell? ⟨w1.heap.size, 3, none⟩ = some (.int .i64 p.gram)) := (Kxw3.out 3 (by simp)).1
    have hg7 : g7 < w3.heap.size := (Quw3.out.out.lt g7 rfl).2
    have V0 : Hid (w3.cell? ⟨g7, 1, none⟩ = some (.int .i64 v0)) := by have h := (Quw3.out.cell 0 (by rw [unhide HL]; exact hNp) 1 (by omega)).1; rw [show (xs.getD 0 default).cells[1]? = some (.int .i64 (xs.getD 0 default).car.wd) from rfl, ← ShelfW.getD_car xs 0 (by rw [unhide HL]; exact hNp), unhide HM, unhide HV] at h; exact h
    refine wp_region_noPanic ?_
    have Bu0 : Hid (Below w3.heap.size w3 w3.drew) := Bw3.out.drew
    obtain ⟨S, hSdef⟩ : ∃ S : World → Prop, S = (fun w' => w'.cell? ⟨w1.heap.size, 0, none⟩ = some (.int .i64 p.wd) ∧ w'.cell? ⟨w1.heap.size, 1, none⟩ = some (.int .i64 p.dp) ∧ w'.cell? ⟨w1.heap.size, 2, none⟩ = some (.int .i64 p.ht) ∧ w'.cell? ⟨w1.heap.size, 3, none⟩ = some (.int .i64 p.gram) ∧ w'.cell? ⟨g7, 1, none⟩ = some (.int .i64 v0)) := ⟨_, rfl⟩
    have hSmk : ∀ wq, (wq.cell? ⟨w1.heap.size, 0, none⟩ = some (.int .i64 p.wd)) → (wq.cell? ⟨w1.heap.size, 1, none⟩ = some (.int .i64 p.dp)) → (wq.cell? ⟨w1.heap.size, 2, none⟩ = some (.int .i64 p.ht)) → (wq.cell? ⟨w1.heap.size, 3, none⟩ = some (.int .i64 p.gram)) → (wq.cell? ⟨g7, 1, none⟩ = some (.int .i64 v0)) → S wq := fun wq p0 p1 p2 p3 p4 => by rw [hSdef]; exact ⟨p0, p1, p2, p3, p4⟩
    have hSd : ∀ wq, S wq → (fun w' => w'.cell? ⟨w1.heap.size, 0, none⟩ = some (.int .i64 p.wd) ∧ w'.cell? ⟨w1.heap.size, 1, none⟩ = some (.int .i64 p.dp) ∧ w'.cell? ⟨w1.heap.size, 2, none⟩ = some (.int .i64 p.ht) ∧ w'.cell? ⟨w1.heap.size, 3, none⟩ = some (.int .i64 p.gram) ∧ w'.cell? ⟨g7, 1, none⟩ = some (.int .i64 v0)) wq := fun wq h => by rw [hSdef] at h; exact h
    clear hSdef
    have hHeld : S w3.drew := hSmk w3.drew ((Bu0.out.cell (p := ⟨w1.heap.size, 0, none⟩) zxw3).trans X0.out) ((Bu0.out.cell (p := ⟨w1.heap.size, 1, none⟩) zxw3).trans X1.out) ((Bu0.out.cell (p := ⟨w1.heap.size, 2, none⟩) zxw3).trans X2.out) ((Bu0.out.cell (p := ⟨w1.heap.size, 3, none⟩) zxw3).trans X3.out) ((Bu0.out.cell (p := ⟨g7, 1, none⟩) hg7).trans V0.out)
    refine wp_region_to (S := S) (T := []) (by kernel_rfl) hHeld (fun _ => ?_)
    generalize w3.drew = u0 at *
    refine wpTo_ts (i := 0) (v := ?_) rfl (by kernel_rfl) hSd (by rfl) (fun w hSw => ?_) (by assumption) ?_
    rotate_left
    · ((try dsimp only [RqC] at hSw); go_simp <;> with_reducible rfl)
    refine wpTo_ts (i := 1) (v := ?_) rfl (by kernel_rfl) hSd (by rfl) (fun w hSw => ?_) (by assumption) ?_
    rotate_left
    · ((try dsimp only [RqC] at hSw); go_simp <;> with_reducible rfl)
    refine wpTo_ts (i := 2) (v := ?_) rfl (by kernel_rfl) hSd (by rfl) (fun w hSw => ?_) (by assumption) ?_
    rotate_left
    · ((try dsimp only [RqC] at hSw); go_simp <;> with_reducible rfl)
    try simp only [Act.put, zz1, zz2, zz3, zz4, zz5, zz6]
    refine wpTo_ts (i := 3) (v := ?_) rfl (by kernel_rfl) hSd (by rfl) (fun w hSw => ?_) (by assumption) ?_
    rotate_left
    · ((try dsimp only [RqC] at hSw); go_simp <;> with_reducible rfl)
    try simp only [Act.put, zz1, zz2, zz3, zz4, zz5, zz6]
    refine wpTo_ready (rs := [4]) (by kernel_rfl) (by simp) ?_
    refine AllTo.cons (o := _) rfl (fun K hK => ?_) ?_
    ·
     (try simp only [zz1, zz2, zz3])
     go_simp
     refine (specShelves_any p _ bs.length cap bs u0 (Qyw3.out.mono (by omega) BoxV.len Bu0.out) (by omega)).mono ?_
     rintro e u1 ⟨gA, cA, xA, rfl, hoA, hmA, hb⟩
     have Bu1 := hide (Bu0.out.trans (hb.mono Bu0.out.size))
     have hlA : xA.length = N := by rw [unhide HN, ← hmA, List.length_map]
     rw [hlA]
     have HOA := hide hoA
     have HMA := hide hmA
     have HLA := hide hlA
     clear hoA hmA hlA
     clear hb
     clear Bu0 
     clear hHeld
     go_wp2_with fail
     have hHeld := hSmk u1 ((Bu1.out.cell (p := ⟨w1.heap.size, 0, none⟩) zxw3).trans X0.out) ((Bu1.out.cell (p := ⟨w1.heap.size, 1, none⟩) zxw3).trans X1.out) ((Bu1.out.cell (p := ⟨w1.heap.size, 2, none⟩) zxw3).trans X2.out) ((Bu1.out.cell (p := ⟨w1.heap.size, 3, none⟩) zxw3).trans X3.out) ((Bu1.out.cell (p := ⟨g7, 1, none⟩) hg7).trans V0.out)
     refine hK.out _ _ (fun _ => hHeld) ?_
     clear hK K
     try simp only [Act.put, zz1, zz2, zz3, zz4, zz5, zz6]
     refine wpTo_ts (i := 5) (v := ?_) rfl (by kernel_rfl) hSd (by rfl) (fun w hSw => ?_) (by assumption) ?_
     rotate_left
     · ((try dsimp only [RqC] at hSw); go_simp <;> with_reducible rfl)
     refine wpTo_ts (i := 6) (v := ?_) rfl (by kernel_rfl) hSd (by rfl) (fun w hSw => ?_) (by assumption) ?_
     rotate_left
     · ((try dsimp only [RqC] at hSw); go_simp <;> with_reducible rfl)
     refine wpTo_ts (i := 7) (v := ?_) rfl (by kernel_rfl) hSd (by rfl) (fun w hSw => ?_) (by assumption) ?_
     rotate_left
     · ((try dsimp only [RqC] at hSw); go_simp <;> with_reducible rfl)
     try simp only [Act.put, zz1, zz2, zz3, zz4, zz5, zz6]
     refine wpTo_ts (i := 8) (v := ?_) rfl (by kernel_rfl) hSd (by rfl) (fun w hSw => ?_) (by assumption) ?_
     rotate_left
     · ((try dsimp only [RqC] at hSw); go_simp <;> with_reducible rfl)
     refine wpTo_ts (i := 9) (v := ?_) rfl (by kernel_rfl) hSd (by rfl) (fun w hSw => ?_) (by assumption) ?_
     rotate_left
     · ((try dsimp only [RqC] at hSw); go_simp <;> with_reducible rfl)
     refine wpTo_ts (i := 10) (v := ?_) rfl (by kernel_rfl) hSd (by rfl) (fun w hSw => ?_) (by assumption) ?_
     rotate_left
     · ((try dsimp only [RqC] at hSw); go_simp <;> with_reducible rfl)
     try simp only [Act.put, zz1, zz2, zz3, zz4, zz5, zz6]
     try rw [show decide ((0 : Int) < (N : Int)) = true from decide_eq_true hNi]
     refine wpTo_ts (i := 11) (v := ?_) rfl (by kernel_rfl) hSd (by rfl) (fun w hSw => ?_) (by assumption) ?_
     rotate_left
     · ((try dsimp only [RqC] at hSw); go_simp <;> with_reducible rfl)
     try simp only [Act.put, zz1, zz2, zz3, zz4, zz5, zz6]
     refine wpTo_ts (i := 12) (v := ?_) rfl (by kernel_rfl) hSd (by rfl) (fun w hSw => ?_) (by assumption) ?_
     rotate_left
     · ((try dsimp only [RqC] at hSw); go_simp <;> with_reducible rfl)
     refine wpTo_ts (i := 13) (v := ?_) rfl (by kernel_rfl) hSd (by rfl) (fun w hSw => ?_) (by assumption) ?_
     rotate_left
     · ((try dsimp only [RqC] at hSw); go_simp <;> with_reducible rfl)
     refine wpTo_ts (i := 14) (v := ?_) rfl (by kernel_rfl) hSd (by rfl) (fun w hSw => ?_) (by assumption) ?_
     rotate_left
     · ((try dsimp only [RqC] at hSw); go_simp <;> with_reducible rfl)
     try simp only [Act.put, zz1, zz2, zz3, zz4, zz5, zz6]
     refine wpTo_ts (i := 15) (v := ?_) rfl (by kernel_rfl) hSd (by rfl) (fun w hSw => ?_) (by assumption) ?_
     rotate_left
     · ((try dsimp only [RqC] at hSw); go_simp <;> with_reducible rfl)
     refine wpTo_ts (i := 16) (v := ?_) rfl (by kernel_rfl) hSd (by rfl) (fun w hSw => ?_) (by assumption) ?_
     rotate_left
     · ((try dsimp only [RqC] at hSw); go_simp <;> with_reducible rfl)
     refine wpTo_ts (i := 17) (v := ?_) rfl (by kernel_rfl) hSd (by rfl) (fun w hSw => ?_) (by assumption) ?_
     rotate_left
     · ((try dsimp only [RqC] at hSw); go_simp <;> with_reducible rfl)
     try simp only [Act.put, zz1, zz2, zz3, zz4, zz5, zz6]
     refine wpTo_ready (rs := [18]) (by kernel_rfl) (by simp) ?_
     refine AllTo.cons (o := _) rfl (fun K hK => ?_) ?_
     ·
      (try simp only [zz1, zz2, zz3])
      go_simp
      refine (specShelves_any p _ bs.length cap bs u1 (Qyw3.out.mono (by omega) BoxV.len Bu1.out) (by omega)).mono ?_
      rintro e u2 ⟨gB, cB, xB, rfl, hoB, hmB, hb⟩
      have Bu2 := hide (Bu1.out.trans (hb.mono Bu1.out.size))
      have hlB : xB.length = N := by rw [unhide HN, ← hmB, List.length_map]
      rw [hlB]
      have HOB := hide hoB
      have HMB := hide hmB
      have HLB := hide hlB
      clear hoB hmB hlB
      clear hb
      clear Bu1 
      clear hHeld
      go_wp2_with fail
      have hHeld := hSmk u2 ((Bu2.out.cell (p := ⟨w1.heap.size, 0, none⟩) zxw3).trans X0.out) ((Bu2.out.cell (p := ⟨w1.heap.size, 1, none⟩) zxw3).trans X1.out) ((Bu2.out.cell (p := ⟨w1.heap.size, 2, none⟩) zxw3).trans X2.out) ((Bu2.out.cell (p := ⟨w1.heap.size, 3, none⟩) zxw3).trans X3.out) ((Bu2.out.cell (p := ⟨g7, 1, none⟩) hg7).trans V0.out)
      refine hK.out _ _ (fun _ => hHeld) ?_
      clear hK K
      try simp only [Act.put, zz1, zz2, zz3, zz4, zz5, zz6]
      refine wpTo_ts (i := 19) (v := ?_) rfl (by kernel_rfl) hSd (by rfl) (fun w hSw => ?_) (by assumption) ?_
      rotate_left
      · ((try dsimp only [RqC] at hSw); go_simp <;> with_reducible rfl)
      try simp only [Act.put, zz1, zz2, zz3, zz4, zz5, zz6]
      refine wpTo_ts (i := 20) (v := ?_) rfl (by kernel_rfl) hSd (by rfl) (fun w hSw => ?_) (by assumption) ?_
      rotate_left
      · ((try dsimp only [RqC] at hSw); go_simp <;> with_reducible rfl)
      try simp only [Act.put, zz1, zz2, zz3, zz4, zz5, zz6]
      refine wpTo_ready (rs := [21]) (by kernel_rfl) (by simp) ?_
      refine AllTo.cons (o := _) rfl (fun K hK => ?_) ?_
      ·
       (try simp only [zz1, zz2, zz3])
       have h21 : u2.cell? ⟨gB, 1, none⟩ = some (.int .i64 v0) := by have h := (HOB.out.cell 0 (by rw [unhide HLB]; exact hNp) 1 (by omega)).1; rw [show (xB.getD 0 default).cells[1]? = some (.int .i64 (xB.getD 0 default).car.wd) from rfl, ← ShelfW.getD_car xB 0 (by rw [unhide HLB]; exact hNp), unhide HMB, unhide HV] at h; exact h
       go_simp
       clear h21
       have hHeld := hSmk u2 ((Bu2.out.cell (p := ⟨w1.heap.size, 0, none⟩) zxw3).trans X0.out) ((Bu2.out.cell (p := ⟨w1.heap.size, 1, none⟩) zxw3).trans X1.out) ((Bu2.out.cell (p := ⟨w1.heap.size, 2, none⟩) zxw3).trans X2.out) ((Bu2.out.cell (p := ⟨w1.heap.size, 3, none⟩) zxw3).trans X3.out) ((Bu2.out.cell (p := ⟨g7, 1, none⟩) hg7).trans V0.out)
       refine hK.out _ _ (fun _ => hHeld) ?_
       clear hK K
       try simp only [Act.put, zz1, zz2, zz3, zz4, zz5, zz6]
       refine wpTo_ts (i := 22) (v := ?_) rfl (by kernel_rfl) hSd (by rfl) (fun w hSw => ?_) (by assumption) ?_
       rotate_left
       · ((try dsimp only [RqC] at hSw); go_simp <;> with_reducible rfl)
       refine wpTo_ts (i := 23) (v := ?_) rfl (by kernel_rfl) hSd (by rfl) (fun w hSw => ?_) (by assumption) ?_
       rotate_left
       · ((try dsimp only [RqC] at hSw); go_simp <;> with_reducible rfl)
       refine wpTo_ts (i := 24) (v := ?_) rfl (by kernel_rfl) hSd (by rfl) (fun w hSw => ?_) (by assumption) ?_
       rotate_left
       · ((try dsimp only [RqC] at hSw); go_simp <;> with_reducible rfl)
       try simp only [Act.put, zz1, zz2, zz3, zz4, zz5, zz6]
       refine wpTo_done (by kernel_rfl) ?_ _
       refine NoPanic.normal ?_
       go_wp2_with fail
       go_meet
       case rel => exact ⟨rfl, unhide Bu2⟩
      exact AllTo.nil
     exact AllTo.nil
    exact AllTo.nil
 case rest =>
  obtain ⟨rfl, hb9⟩ := hcut
  have Hwc : Hid (Below w.heap.size w wc) := Hw3.out.trans (hb9.mono Hw3.out.size)
  have Kxwc := hide (Blk.below hb9 zxw3 Kxw3.out)
  have zxwc : w1.heap.size < wc.heap.size := Nat.lt_of_lt_of_le zxw3 hb9.size
  have Qywc : Hid (RdR BoxV.cells 4 wc (some ⟨g, 0, none⟩) bs.length bs) := RdR.mono (by omega) BoxV.len Qyw3.out hb9
  have Quwc : Hid (OwnShelf wc w2.heap.size g7 cap7 xs) := OwnShelf.later Quw3.out hb9
  clear Hw3 Kxw3 zxw3 Qyw3 Quw3
  clear hb9
  obtain ⟨xwc_0, xwc_1, xwc_2, xwc_3⟩ := Blk.cs4 Kxwc.out
  go_wp2
  go_loopw [6] (fun i wr => ∃ j : Nat, 1 ≤ j ∧ i = .int .i64 j ∧ Below wc.heap.size wc wr) (fun i _ => N - (intOf i).toNat)
  case atStart => exact ⟨1, by omega, rfl, Below.refl _ _⟩
  case round =>
   clear xwc_0 xwc_1 xwc_2 xwc_3
   obtain ⟨i, hi1, rfl, hbl⟩ := hrel
   by_cases hlt : i < N
   case neg =>
    have Hwr : Hid (Below w.heap.size w wr) := Hwc.out.trans (hbl.mono Hwc.out.size)
    have Kxwr := hide (Blk.below hbl zxwc Kxwc.out)
    have zxwr : w1.heap.size < wr.heap.size := Nat.lt_of_lt_of_le zxwc hbl.size
    have Qywr : Hid (RdR BoxV.cells 4 wr (some ⟨g, 0, none⟩) bs.length bs) := RdR.mono (by omega) BoxV.len Qywc.out hbl
    have Quwr : Hid (OwnShelf wr w2.heap.size g7 cap7 xs) := OwnShelf.later Quwc.out hbl
    clear Hwc Kxwc zxwc Qywc Quwc
    clear hbl
    go_wp2
    go_ret
    exact ⟨rfl, unhide Hwr⟩
   case pos =>
    have hbl0 := hide hbl
    have Hwr : Hid (Below w.heap.size w wr) := Hwc.out.trans (hbl.mono Hwc.out.size)
    have Kxwr := hide (Blk.below hbl zxwc Kxwc.out)
    have zxwr : w1.heap.size < wr.heap.size := Nat.lt_of_lt_of_le zxwc hbl.size
    have Qywr : Hid (RdR BoxV.cells 4 wr (some ⟨g, 0, none⟩) bs.length bs) := RdR.mono (by omega) BoxV.len Qywc.out hbl
    have Quwr : Hid (OwnShelf wr w2.heap.size g7 cap7 xs) := OwnShelf.later Quwc.out hbl
    clear Hwc Kxwc zxwc Qywc Quwc
    obtain ⟨jb, tl, hus, hjb, hdp, hno⟩ := need_at p bs i (by rw [← unhide HN]; exact hlt)
    obtain ⟨hpal, hso, hbox⟩ := need_bd (p := p) (bs := bs) (i := i - 1) (by rw [← unhide HN]; omega)
    have hno1 := hno (by omega)
    clear hno
    have hbi := box_in (hbox jb hjb)
    have hpi := pal_in hpal
    have o0 := hso.w0
    have o1 := hso.w1
    have o2 := hso.g0
    have o3 := hso.g1
    clear hpal hso hbox
    have hxi : i < xs.length := by rw [unhide HL]; exact hlt
    have hxj : i - 1 < xs.length := by omega
    have h0 := (Quwr.out.cell i hxi 0 (by omega)).1
    have h2 := (Quwr.out.cell i hxi 2 (by omega)).1
    have h1 := (Quwr.out.cell (i - 1) hxj 1 (by omega)).1
    have h4 := (Quwr.out.cell (i - 1) hxj 4 (by omega)).1
    have hrow := own_reads (Quwr.out.rowAt i hxi)
    have e0 := ShelfW.getD_car xs i hxi
    have e1 := ShelfW.getD_car xs (i - 1) hxj
    rw [unhide HM] at e0 e1
    rw [e0] at hus hdp
    rw [e1] at hno1 o0 o1 o2 o3
    generalize xs.getD i default = ra at h0 h2 hus hdp hrow
    generalize xs.getD (i - 1) default = rb at h1 h4 hno1 o0 o1 o2 o3
    obtain ⟨rg, rc, rl, r1, rd, r3, r4⟩ := ra
    obtain ⟨sg, sc, sl, sw, sd, sh, sm⟩ := rb
    simp only [ShelfW.car, ShelfW.row] at hus hdp hno1 hrow o0 o1 o2 o3
    subst hus
    subst hdp
    obtain ⟨i0, rfl⟩ : ∃ i0, i = i0 + 1 := ⟨i - 1, by omega⟩
    rw [Nat.add_sub_cancel] at h1 h4
    have d0 : wr.cell? ⟨g7, (i0 + 1) * 5, none⟩ = some (.slice (some ⟨rg, 0, none⟩) (tl.length + 1) rc) := h0
    have d2 : wr.cell? ⟨g7, (i0 + 1) * 5 + 2, none⟩ = some (.int .i64 (bs.getD jb default).dp) := h2
    have d1 : wr.cell? ⟨g7, i0 * 5 + 1, none⟩ = some (.int .i64 sw) := h1
    have d4 : wr.cell? ⟨g7, i0 * 5 + 4, none⟩ = some (.int .i64 sm) := h4
    have f0 : wr.cell? ⟨rg, 0, none⟩ = some (.int .i64 (jb : Int)) := by obtain ⟨bb, off, e, hc⟩ := hrow.2 0 (by simp); cases e; exact hc
    obtain ⟨bb, off, eg, hcb⟩ := Qywr.out.2 jb hjb
    cases eg
    have q0 : wr.cell? ⟨g, 0 + jb * 4, none⟩ = _ := hcb 0 (by omega)
    have q1 := hcb 1 (by omega)
    have q2 := hcb 2 (by omega)
    have q3 := hcb 3 (by omega)
    clear hcb
    generalize bs.getD jb default = q at q0 q1 q2 q3 d2 hbi hno1
    have q0 : wr.cell? ⟨g, jb * 4, none⟩ = some (.int .i64 q.wd) := by rw [Nat.zero_add] at q0; exact q0
    have q1 : wr.cell? ⟨g, jb * 4 + 1, none⟩ = some (.int .i64 q.dp) := by rw [Nat.zero_add] at q1; exact q1
    have q2 : wr.cell? ⟨g, jb * 4 + 2, none⟩ = some (.int .i64 q.ht) := by rw [Nat.zero_add] at q2; exact q2
    have q3 : wr.cell? ⟨g, jb * 4 + 3, none⟩ = some (.int .i64 q.gram) := by rw [Nat.zero_add] at q3; exact q3
    have hlI : ((i0 : Int) + 1 < (N : Int)) := by omega
    have hlJ : ((i0 : Int) < (N : Int)) := by omega
    have hjI : (jb : Int) < (bs.length : Int) := by omega
    have hjn : ¬ (bs.length : Int) ≤ (jb : Int) := by omega
    have htn : ((tl.length : Int) + 1 == 0) = false := by rw [beq_eq_false_iff_ne]; omega
    have htp : (0 : Int) < (tl.length : Int) + 1 := by omega
    clear h0 h1 h2 h4 hrow e0 e1 hbl
    have HNO := hide hno1
    clear hno1
    have xwr_0 : wr.cell? ⟨w1.heap.size, 0, none⟩ = some (.int .i64 p.wd) := (Kxwr.out 0 (by simp)).1
    have xwr_3 : wr.cell? ⟨w1.heap.size, 3, none⟩ = some (.int .i64 p.gram) := (Kxwr.out 3 (by simp)).1
    clear xwr_0 xwr_3
    have XX0 : Hid (wr.cell? ⟨w1.heap.size, 0, none⟩ = some (.int .i64 p.wd)) := (Kxwr.out 0 (by simp)).1
    have XX3 : Hid (wr.cell? ⟨w1.heap.size, 3, none⟩ = some (.int .i64 p.gram)) := (Kxwr.out 3 (by simp)).1
    have xwr_0 : wr.cell? ⟨w1.heap.size, 0, none⟩ = some (.int .i64 p.wd) := (Kxwr.out 0 (by simp)).1
    have xwr_3 : wr.cell? ⟨w1.heap.size, 3, none⟩ = some (.int .i64 p.gram) := (Kxwr.out 3 (by simp)).1
    go_upto_region 13 with fail
    clear xwr_0 xwr_3
    have hg7l : g7 < wr.heap.size := (Quwr.out.out.lt g7 rfl).2
    have hbx0 : Below wr.heap.size wr (wr.alloc (.cells #[.int .i64 q.wd, .int .i64 q.dp, .int .i64 q.ht, .int .i64 q.gram] 52)) := (Below.refl _ _).alloc (Nat.le_refl _) _
    have KB0 : Blk (wr.alloc (.cells #[.int .i64 q.wd, .int .i64 q.dp, .int .i64 q.ht, .int .i64 q.gram] 52)) wr.heap.size [.int .i64 q.wd, .int .i64 q.dp, .int .i64 q.ht, .int .i64 q.gram] := Blk.allocAt [.int .i64 q.wd, .int .i64 q.dp, .int .i64 q.ht, .int .i64 q.gram] rfl
    have hzb0 : wr.heap.size < (wr.alloc (.cells #[.int .i64 q.wd, .int .i64 q.dp, .int .i64 q.ht, .int .i64 q.gram] 52)).heap.size := by simp
    generalize (wr.alloc (.cells #[.int .i64 q.wd, .int .i64 q.dp, .int .i64 q.ht, .int .i64 q.gram] 52)) = wx at *
    have hzx1 : w1.heap.size < wx.heap.size := by have := hbx0.size; omega
    have hg7x : g7 < wx.heap.size := by have := hbx0.size; omega
    have X0 : Hid (wx.cell? ⟨w1.heap.size, 0, none⟩ = some (.int .i64 p.wd)) := (hbx0.cell (p := ⟨w1.heap.size, 0, none⟩) zxwr).trans XX0.out
    have X3 : Hid (wx.cell? ⟨w1.heap.size, 3, none⟩ = some (.int .i64 p.gram)) := (hbx0.cell (p := ⟨w1.heap.size, 3, none⟩) zxwr).trans XX3.out
    have D1 := hide ((hbx0.cell (p := ⟨g7, i0 * 5 + 1, none⟩) hg7l).trans d1)
    have D4 := hide ((hbx0.cell (p := ⟨g7, i0 * 5 + 4, none⟩) hg7l).trans d4)
    have D2 := hide ((hbx0.cell (p := ⟨g7, (i0 + 1) * 5 + 2, none⟩) hg7l).trans d2)
    have F0 : Hid (wx.cell? ⟨wr.heap.size, 0, none⟩ = some (.int .i64 q.wd)) := (KB0 0 (by simp)).1
    have F1 : Hid (wx.cell? ⟨wr.heap.size, 1, none⟩ = some (.int .i64 q.dp)) := (KB0 1 (by simp)).1
    have F3 : Hid (wx.cell? ⟨wr.heap.size, 3, none⟩ = some (.int .i64 q.gram)) := (KB0 3 (by simp)).1
    have Bwx : Hid (Below wx.heap.size wx wx) := Below.refl _ _
    have HBX0 := hide hbx0
    have hneq : (q.dp != q.dp) = false := by simp
    clear d0 d1 d2 d4 f0 q0 q1 q2 q3 KB0 hbx0 XX0 XX3
    have hcs : (¬ sw + q.wd ≤ p.wd) ∨ (sw + q.wd ≤ p.wd ∧ ¬ sm + q.gram ≤ p.gram) := by
     by_cases n1 : sw + q.wd ≤ p.wd
     · refine .inr ⟨n1, fun n2 => ?_⟩
       have := room_iff.2 (show (⟨sl, sw, sd, sh, sm⟩ : ShelfV).wd + q.wd ≤ p.wd ∧ (⟨sl, sw, sd, sh, sm⟩ : ShelfV).gram + q.gram ≤ p.gram from ⟨n1, n2⟩)
       rw [unhide HNO] at this
       cases this
     · exact .inl n1
    go_cut [123] (fun v wc => v = .bool false ∧ Below wx.heap.size wx wc)
    case first =>
     rcases hcs with n1 | ⟨n1, n2⟩
     · refine wp_region_noPanic ?_
       have Bu0 : Hid (Below wx.heap.size wx wx.drew) := Bwx.out.drew
       obtain ⟨S, hSdef⟩ : ∃ S : World → Prop, S = (fun w' => w'.cell? ⟨w1.heap.size, 0, none⟩ = some (.int .i64 p.wd) ∧ w'.cell? ⟨w1.heap.size, 3, none⟩ = some (.int .i64 p.gram) ∧ w'.cell? ⟨g7, i0 * 5 + 1, none⟩ = some (.int .i64 sw) ∧ w'.cell? ⟨g7, i0 * 5 + 4, none⟩ = some (.int .i64 sm) ∧ w'.cell? ⟨g7, (i0 + 1) * 5 + 2, none⟩ = some (.int .i64 q.dp) ∧ w'.cell? ⟨wr.heap.size, 0, none⟩ = some (.int .i64 q.wd) ∧ w'.cell? ⟨wr.heap.size, 1, none⟩ = some (.int .i64 q.dp) ∧ w'.cell? ⟨wr.heap.size, 3, none⟩ = some (.int .i64 q.gram)) := ⟨_, rfl⟩
       have hSmk : ∀ wq, (wq.cell? ⟨w1.heap.size, 0, none⟩ = some (.int .i64 p.wd)) → (wq.cell? ⟨w1.heap.size, 3, none⟩ = some (.int .i64 p.gram)) → (wq.cell? ⟨g7, i0 * 5 + 1, none⟩ = some (.int .i64 sw)) → (wq.cell? ⟨g7, i0 * 5 + 4, none⟩ = some (.int .i64 sm)) → (wq.cell? ⟨g7, (i0 + 1) * 5 + 2, none⟩ = some (.int .i64 q.dp)) → (wq.cell? ⟨wr.heap.size, 0, none⟩ = some (.int .i64 q.wd)) → (wq.cell? ⟨wr.heap.size, 1, none⟩ = some (.int .i64 q.dp)) → (wq.cell? ⟨wr.heap.size, 3, none⟩ = some (.int .i64 q.gram)) → S wq := fun wq p0 p1 p2 p3 p4 p5 p6 p7 => by rw [hSdef]; exact ⟨p0, p1, p2, p3, p4, p5, p6, p7⟩
       have hSd : ∀ wq, S wq → (fun w' => w'.cell? ⟨w1.heap.size, 0, none⟩ = some (.int .i64 p.wd) ∧ w'.cell? ⟨w1.heap.size, 3, none⟩ = some (.int .i64 p.gram) ∧ w'.cell? ⟨g7, i0 * 5 + 1, none⟩ = some (.int .i64 sw) ∧ w'.cell? ⟨g7, i0 * 5 + 4, none⟩ = some (.int .i64 sm) ∧ w'.cell? ⟨g7, (i0 + 1) * 5 + 2, none⟩ = some (.int .i64 q.dp) ∧ w'.cell? ⟨wr.heap.size, 0, none⟩ = some (.int .i64 q.wd) ∧ w'.cell? ⟨wr.heap.size, 1, none⟩ = some (.int .i64 q.dp) ∧ w'.cell? ⟨wr.heap.size, 3, none⟩ = some (.int .i64 q.gram)) wq := fun wq h => by rw [hSdef] at h; exact h
       clear hSdef
       have hHeld : S wx.drew := hSmk wx.drew ((Bu0.out.cell (p := ⟨w1.heap.size, 0, none⟩) hzx1).trans X0.out) ((Bu0.out.cell (p := ⟨w1.heap.size, 3, none⟩) hzx1).trans X3.out) ((Bu0.out.cell (p := ⟨g7, i0 * 5 + 1, none⟩) hg7x).trans D1.out) ((Bu0.out.cell (p := ⟨g7, i0 * 5 + 4, none⟩) hg7x).trans D4.out) ((Bu0.out.cell (p := ⟨g7, (i0 + 1) * 5 + 2, none⟩) hg7x).trans D2.out) ((Bu0.out.cell (p := ⟨wr.heap.size, 0, none⟩) hzb0).trans F0.out) ((Bu0.out.cell (p := ⟨wr.heap.size, 1, none⟩) hzb0).trans F1.out) ((Bu0.out.cell (p := ⟨wr.heap.size, 3, none⟩) hzb0).trans F3.out)
       refine wp_region_to (S := S) (T := []) (by kernel_rfl) hHeld (fun _ => ?_)
       generalize wx.drew = u0 at *
       refine wpTo_ts (i := 0) (v := ?_) rfl (by kernel_rfl) hSd (by rfl) (fun w hSw => ?_) (by assumption) ?_
       rotate_left
       · ((try dsimp only [RqC] at hSw); go_simp <;> with_reducible rfl)
       try simp only [Act.put, zz1, zz2, zz3, zz4, zz5, zz6]
       refine wpTo_ts (i := 1) (v := ?_) rfl (by kernel_rfl) hSd (by rfl) (fun w hSw => ?_) (by assumption) ?_
       rotate_left
       · ((try dsimp only [RqC] at hSw); go_simp <;> with_reducible rfl)
       refine wpTo_ts (i := 2) (v := ?_) rfl (by kernel_rfl) hSd (by rfl) (fun w hSw => ?_) (by assumption) ?_
       rotate_left
       · ((try dsimp only [RqC] at hSw); go_simp <;> with_reducible rfl)
       try simp only [Act.put, zz1, zz2, zz3, zz4, zz5, zz6]
       rw [wrap_fits (x := (i0 : Int)) (by omega) (by omega)]
       refine wpTo_ts (i := 3) (v := ?_) rfl (by kernel_rfl) hSd (by rfl) (fun w hSw => ?_) (by assumption) ?_
       rotate_left
       · ((try dsimp only [RqC] at hSw); go_simp <;> with_reducible rfl)
       refine wpTo_ts (i := 4) (v := ?_) rfl (by kernel_rfl) hSd (by rfl) (fun w hSw => ?_) (by assumption) ?_
       rotate_left
       · ((try dsimp only [RqC] at hSw); go_simp <;> with_reducible rfl)
       try simp only [Act.put, zz1, zz2, zz3, zz4, zz5, zz6]
       refine wpTo_ts (i := 5) (v := ?_) rfl (by kernel_rfl) hSd (by rfl) (fun w hSw => ?_) (by assumption) ?_
       rotate_left
       · ((try dsimp only [RqC] at hSw); go_simp <;> with_reducible rfl)
       refine wpTo_ts (i := 6) (v := ?_) rfl (by kernel_rfl) hSd (by rfl) (fun w hSw => ?_) (by assumption) ?_
       rotate_left
       · ((try dsimp only [RqC] at hSw); go_simp <;> with_reducible rfl)
       refine wpTo_ts (i := 7) (v := ?_) rfl (by kernel_rfl) hSd (by rfl) (fun w hSw => ?_) (by assumption) ?_
       rotate_left
       · ((try dsimp only [RqC] at hSw); go_simp <;> with_reducible rfl)
       try simp only [Act.put, zz1, zz2, zz3, zz4, zz5, zz6]
       refine wpTo_ts (i := 8) (v := ?_) rfl (by kernel_rfl) hSd (by rfl) (fun w hSw => ?_) (by assumption) ?_
       rotate_left
       · ((try dsimp only [RqC] at hSw); go_simp <;> with_reducible rfl)
       try simp only [Act.put, zz1, zz2, zz3, zz4, zz5, zz6]
       try rw [wrap_fits (x := sw + q.wd) (by omega) (by omega)]
       refine wpTo_ts (i := 9) (v := ?_) rfl (by kernel_rfl) hSd (by rfl) (fun w hSw => ?_) (by assumption) ?_
       rotate_left
       · ((try dsimp only [RqC] at hSw); go_simp <;> with_reducible rfl)
       refine wpTo_ts (i := 10) (v := ?_) rfl (by kernel_rfl) hSd (by rfl) (fun w hSw => ?_) (by assumption) ?_
       rotate_left
       · ((try dsimp only [RqC] at hSw); go_simp <;> with_reducible rfl)
       refine wpTo_ts (i := 11) (v := ?_) rfl (by kernel_rfl) hSd (by rfl) (fun w hSw => ?_) (by assumption) ?_
       rotate_left
       · ((try dsimp only [RqC] at hSw); go_simp <;> with_reducible rfl)
       try simp only [Act.put, zz1, zz2, zz3, zz4, zz5, zz6]
       try rw [show decide (sw + q.wd ≤ p.wd) = false from decide_eq_false n1]
       refine wpTo_ts (i := 12) (v := ?_) rfl (by kernel_rfl) hSd (by rfl) (fun w hSw => ?_) (by assumption) ?_
       rotate_left
       · ((try dsimp only [RqC] at hSw); go_simp <;> with_reducible rfl)
       try simp only [Act.put, zz1, zz2, zz3, zz4, zz5, zz6]
       refine wpTo_tk (i := 13) (v := undef) rfl (by kernel_rfl) (Or.inr ⟨by rfl, rfl⟩) (by assumption) ?_
       try simp only [Act.put, zz1, zz2, zz3, zz4, zz5, zz6]
       refine wpTo_tk (i := 14) (v := undef) rfl (by kernel_rfl) (Or.inr ⟨by rfl, rfl⟩) (by assumption) ?_
       try simp only [Act.put, zz1, zz2, zz3, zz4, zz5, zz6]
       refine wpTo_tk (i := 15) (v := undef) rfl (by kernel_rfl) (Or.inr ⟨by rfl, rfl⟩) (by assumption) ?_
       try simp only [Act.put, zz1, zz2, zz3, zz4, zz5, zz6]
       refine wpTo_tk (i := 16) (v := undef) rfl (by kernel_rfl) (Or.inr ⟨by rfl, rfl⟩) (by assumption) ?_
       try simp only [Act.put, zz1, zz2, zz3, zz4, zz5, zz6]
       refine wpTo_tk (i := 17) (v := undef) rfl (by kernel_rfl) (Or.inr ⟨by rfl, rfl⟩) (by assumption) ?_
       try simp only [Act.put, zz1, zz2, zz3, zz4, zz5, zz6]
       refine wpTo_tk (i := 18) (v := undef) rfl (by kernel_rfl) (Or.inr ⟨by rfl, rfl⟩) (by assumption) ?_
       try simp only [Act.put, zz1, zz2, zz3, zz4, zz5, zz6]
       refine wpTo_tk (i := 19) (v := undef) rfl (by kernel_rfl) (Or.inr ⟨by rfl, rfl⟩) (by assumption) ?_
       try simp only [Act.put, zz1, zz2, zz3, zz4, zz5, zz6]
       refine wpTo_tk (i := 20) (v := undef) rfl (by kernel_rfl) (Or.inr ⟨by rfl, rfl⟩) (by assumption) ?_
       try simp only [Act.put, zz1, zz2, zz3, zz4, zz5, zz6]
       refine wpTo_tk (i := 21) (v := undef) rfl (by kernel_rfl) (Or.inr ⟨by rfl, rfl⟩) (by assumption) ?_
       try simp only [Act.put, zz1, zz2, zz3, zz4, zz5, zz6]
       refine wpTo_tk (i := 22) (v := undef) rfl (by kernel_rfl) (Or.inr ⟨by rfl, rfl⟩) (by assumption) ?_
       try simp only [Act.put, zz1, zz2, zz3, zz4, zz5, zz6]
       refine wpTo_tk (i := 23) (v := undef) rfl (by kernel_rfl) (Or.inr ⟨by rfl, rfl⟩) (by assumption) ?_
       try simp only [Act.put, zz1, zz2, zz3, zz4, zz5, zz6]
       refine wpTo_tk (i := 24) (v := undef) rfl (by kernel_rfl) (Or.inr ⟨by rfl, rfl⟩) (by assumption) ?_
       try simp only [Act.put, zz1, zz2, zz3, zz4, zz5, zz6]
       refine wpTo_ts (i := 25) (v := ?_) rfl (by kernel_rfl) hSd (by rfl) (fun w hSw => ?_) (by assumption) ?_
       rotate_left
       · ((try dsimp only [RqC] at hSw); go_simp <;> with_reducible rfl)
       try simp only [Act.put, zz1, zz2, zz3, zz4, zz5, zz6]
       refine wpTo_ts (i := 26) (v := ?_) rfl (by kernel_rfl) hSd (by rfl) (fun w hSw => ?_) (by assumption) ?_
       rotate_left
       · ((try dsimp only [RqC] at hSw); go_simp <;> with_reducible rfl)
       refine wpTo_ts (i := 27) (v := ?_) rfl (by kernel_rfl) hSd (by rfl) (fun w hSw => ?_) (by assumption) ?_
       rotate_left
       · ((try dsimp only [RqC] at hSw); go_simp <;> with_reducible rfl)
       refine wpTo_ts (i := 28) (v := ?_) rfl (by kernel_rfl) hSd (by rfl) (fun w hSw => ?_) (by assumption) ?_
       rotate_left
       · ((try dsimp only [RqC] at hSw); go_simp <;> with_reducible rfl)
       try simp only [Act.put, zz1, zz2, zz3, zz4, zz5, zz6]
       refine wpTo_ts (i := 29) (v := ?_) rfl (by kernel_rfl) hSd (by rfl) (fun w hSw => ?_) (by assumption) ?_
       rotate_left
       · ((try dsimp only [RqC] at hSw); go_simp <;> with_reducible rfl)
       refine wpTo_ts (i := 30) (v := ?_) rfl (by kernel_rfl) hSd (by rfl) (fun w hSw => ?_) (by assumption) ?_
       rotate_left
       · ((try dsimp only [RqC] at hSw); go_simp <;> with_reducible rfl)
       refine wpTo_ts (i := 31) (v := ?_) rfl (by kernel_rfl) hSd (by rfl) (fun w hSw => ?_) (by assumption) ?_
       rotate_left
       · ((try dsimp only [RqC] at hSw); go_simp <;> with_reducible rfl)
       try simp only [Act.put, zz1, zz2, zz3, zz4, zz5, zz6]
       refine wpTo_ts (i := 32) (v := ?_) rfl (by kernel_rfl) hSd (by rfl) (fun w hSw => ?_) (by assumption) ?_
       rotate_left
       · ((try dsimp only [RqC] at hSw); go_simp <;> with_reducible rfl)
       refine wpTo_ts (i := 33) (v := ?_) rfl (by kernel_rfl) hSd (by rfl) (fun w hSw => ?_) (by assumption) ?_
       rotate_left
       · ((try dsimp only [RqC] at hSw); go_simp <;> with_reducible rfl)
       refine wpTo_ts (i := 34) (v := ?_) rfl (by kernel_rfl) hSd (by rfl) (fun w hSw => ?_) (by assumption) ?_
       rotate_left
       · ((try dsimp only [RqC] at hSw); go_simp <;> with_reducible rfl)
       try simp only [Act.put, zz1, zz2, zz3, zz4, zz5, zz6]
       refine wpTo_ts (i := 35) (v := ?_) rfl (by kernel_rfl) hSd (by rfl) (fun w hSw => ?_) (by assumption) ?_
       rotate_left
       · ((try dsimp only [RqC] at hSw); go_simp <;> with_reducible rfl)
       try simp only [Act.put, zz1, zz2, zz3, zz4, zz5, zz6]
       refine wpTo_done (by kernel_rfl) ?_ _
       refine NoPanic.normal ?_
       go_wp2_with fail
       go_meet
       case rel => exact ⟨rfl, unhide Bu0⟩
     · refine wp_region_noPanic ?_
       have Bu0 : Hid (Below wx.heap.size wx wx.drew) := Bwx.out.drew
       obtain ⟨S, hSdef⟩ : ∃ S : World → Prop, S = (fun w' => w'.cell? ⟨w1.heap.size, 0, none⟩ = some (.int .i64 p.wd) ∧ w'.cell? ⟨w1.heap.size, 3, none⟩ = some (.int .i64 p.gram) ∧ w'.cell? ⟨g7, i0 * 5 + 1, none⟩ = some (.int .i64 sw) ∧ w'.cell? ⟨g7, i0 * 5 + 4, none⟩ = some (.int .i64 sm) ∧ w'.cell? ⟨g7, (i0 + 1) * 5 + 2, none⟩ = some (.int .i64 q.dp) ∧ w'.cell? ⟨wr.heap.size, 0, none⟩ = some (.int .i64 q.wd) ∧ w'.cell? ⟨wr.heap.size, 1, none⟩ = some (.int .i64 q.dp) ∧ w'.cell? ⟨wr.heap.size, 3, none⟩ = some (.int .i64 q.gram)) := ⟨_, rfl⟩
       have hSmk : ∀ wq, (wq.cell? ⟨w1.heap.size, 0, none⟩ = some (.int .i64 p.wd)) → (wq.cell? ⟨w1.heap.size, 3, none⟩ = some (.int .i64 p.gram)) → (wq.cell? ⟨g7, i0 * 5 + 1, none⟩ = some (.int .i64 sw)) → (wq.cell? ⟨g7, i0 * 5 + 4, none⟩ = some (.int .i64 sm)) → (wq.cell? ⟨g7, (i0 + 1) * 5 + 2, none⟩ = some (.int .i64 q.dp)) → (wq.cell? ⟨wr.heap.size, 0, none⟩ = some (.int .i64 q.wd)) → (wq.cell? ⟨wr.heap.size, 1, none⟩ = some (.int .i64 q.dp)) → (wq.cell? ⟨wr.heap.size, 3, none⟩ = some (.int .i64 q.gram)) → S wq := fun wq p0 p1 p2 p3 p4 p5 p6 p7 => by rw [hSdef]; exact ⟨p0, p1, p2, p3, p4, p5, p6, p7⟩
       have hSd : ∀ wq, S wq → (fun w' => w'.cell? ⟨w1.heap.size, 0, none⟩ = some (.int .i64 p.wd) ∧ w'.cell? ⟨w1.heap.size, 3, none⟩ = some (.int .i64 p.gram) ∧ w'.cell? ⟨g7, i0 * 5 + 1, none⟩ = some (.int .i64 sw) ∧ w'.cell? ⟨g7, i0 * 5 + 4, none⟩ = some (.int .i64 sm) ∧ w'.cell? ⟨g7, (i0 + 1) * 5 + 2, none⟩ = some (.int .i64 q.dp) ∧ w'.cell? ⟨wr.heap.size, 0, none⟩ = some (.int .i64 q.wd) ∧ w'.cell? ⟨wr.heap.size, 1, none⟩ = some (.int .i64 q.dp) ∧ w'.cell? ⟨wr.heap.size, 3, none⟩ = some (.int .i64 q.gram)) wq := fun wq h => by rw [hSdef] at h; exact h
       clear hSdef
       have hHeld : S wx.drew := hSmk wx.drew ((Bu0.out.cell (p := ⟨w1.heap.size, 0, none⟩) hzx1).trans X0.out) ((Bu0.out.cell (p := ⟨w1.heap.size, 3, none⟩) hzx1).trans X3.out) ((Bu0.out.cell (p := ⟨g7, i0 * 5 + 1, none⟩) hg7x).trans D1.out) ((Bu0.out.cell (p := ⟨g7, i0 * 5 + 4, none⟩) hg7x).trans D4.out) ((Bu0.out.cell (p := ⟨g7, (i0 + 1) * 5 + 2, none⟩) hg7x).trans D2.out) ((Bu0.out.cell (p := ⟨wr.heap.size, 0, none⟩) hzb0).trans F0.out) ((Bu0.out.cell (p := ⟨wr.heap.size, 1, none⟩) hzb0).trans F1.out) ((Bu0.out.cell (p := ⟨wr.heap.size, 3, none⟩) hzb0).trans F3.out)
       refine wp_region_to (S := S) (T := []) (by kernel_rfl) hHeld (fun _ => ?_)
       generalize wx.drew = u0 at *
       refine wpTo_ts (i := 0) (v := ?_) rfl (by kernel_rfl) hSd (by rfl) (fun w hSw => ?_) (by assumption) ?_
       rotate_left
       · ((try dsimp only [RqC] at hSw); go_simp <;> with_reducible rfl)
       refine wpTo_ts (i := 1) (v := ?_) rfl (by kernel_rfl) hSd (by rfl) (fun w hSw => ?_) (by assumption) ?_
       rotate_left
       · ((try dsimp only [RqC] at hSw); go_simp <;> with_reducible rfl)
       refine wpTo_ts (i := 2) (v := ?_) rfl (by kernel_rfl) hSd (by rfl) (fun w hSw => ?_) (by assumption) ?_
       rotate_left
       · ((try dsimp only [RqC] at hSw); go_simp <;> with_reducible rfl)
       try simp only [Act.put, zz1, zz2, zz3, zz4, zz5, zz6]
       rw [wrap_fits (x := (i0 : Int)) (by omega) (by omega)]
       refine wpTo_ts (i := 3) (v := ?_) rfl (by kernel_rfl) hSd (by rfl) (fun w hSw => ?_) (by assumption) ?_
       rotate_left
       · ((try dsimp only [RqC] at hSw); go_simp <;> with_reducible rfl)
       try simp only [Act.put, zz1, zz2, zz3, zz4, zz5, zz6]
       refine wpTo_ts (i := 4) (v := ?_) rfl (by kernel_rfl) hSd (by rfl) (fun w hSw => ?_) (by assumption) ?_
       rotate_left
       · ((try dsimp only [RqC] at hSw); go_simp <;> with_reducible rfl)
       refine wpTo_ts (i := 5) (v := ?_) rfl (by kernel_rfl) hSd (by rfl) (fun w hSw => ?_) (by assumption) ?_
       rotate_left
       · ((try dsimp only [RqC] at hSw); go_simp <;> with_reducible rfl)
       refine wpTo_ts (i := 6) (v := ?_) rfl (by kernel_rfl) hSd (by rfl) (fun w hSw => ?_) (by assumption) ?_
       rotate_left
       · ((try dsimp only [RqC] at hSw); go_simp <;> with_reducible rfl)
       try simp only [Act.put, zz1, zz2, zz3, zz4, zz5, zz6]
       refine wpTo_ts (i := 7) (v := ?_) rfl (by kernel_rfl) hSd (by rfl) (fun w hSw => ?_) (by assumption) ?_
       rotate_left
       · ((try dsimp only [RqC] at hSw); go_simp <;> with_reducible rfl)
       refine wpTo_ts (i := 8) (v := ?_) rfl (by kernel_rfl) hSd (by rfl) (fun w hSw => ?_) (by assumption) ?_
       rotate_left
       · ((try dsimp only [RqC] at hSw); go_simp <;> with_reducible rfl)
       try simp only [Act.put, zz1, zz2, zz3, zz4, zz5, zz6]
       try rw [wrap_fits (x := sw + q.wd) (by omega) (by omega)]
       refine wpTo_ts (i := 9) (v := ?_) rfl (by kernel_rfl) hSd (by rfl) (fun w hSw => ?_) (by assumption) ?_
       rotate_left
       · ((try dsimp only [RqC] at hSw); go_simp <;> with_reducible rfl)
       refine wpTo_ts (i := 10) (v := ?_) rfl (by kernel_rfl) hSd (by rfl) (fun w hSw => ?_) (by assumption) ?_
       rotate_left
       · ((try dsimp only [RqC] at hSw); go_simp <;> with_reducible rfl)
       try simp only [Act.put, zz1, zz2, zz3, zz4, zz5, zz6]
       refine wpTo_ts (i := 11) (v := ?_) rfl (by kernel_rfl) hSd (by rfl) (fun w hSw => ?_) (by assumption) ?_
       rotate_left
       · ((try dsimp only [RqC] at hSw); go_simp <;> with_reducible rfl)
       try simp only [Act.put, zz1, zz2, zz3, zz4, zz5, zz6]
       try rw [show decide (sw + q.wd ≤ p.wd) = true from decide_eq_true n1]
       refine wpTo_ts (i := 12) (v := ?_) rfl (by kernel_rfl) hSd (by rfl) (fun w hSw => ?_) (by assumption) ?_
       rotate_left
       · ((try dsimp only [RqC] at hSw); go_simp <;> with_reducible rfl)
       refine wpTo_ts (i := 13) (v := ?_) rfl (by kernel_rfl) hSd (by rfl) (fun w hSw => ?_) (by assumption) ?_
       rotate_left
       · ((try dsimp only [RqC] at hSw); go_simp <;> with_reducible rfl)
       refine wpTo_ts (i := 14) (v := ?_) rfl (by kernel_rfl) hSd (by rfl) (fun w hSw => ?_) (by assumption) ?_
       rotate_left
       · ((try dsimp only [RqC] at hSw); go_simp <;> with_reducible rfl)
       try simp only [Act.put, zz1, zz2, zz3, zz4, zz5, zz6]
       refine wpTo_ts (i := 15) (v := ?_) rfl (by kernel_rfl) hSd (by rfl) (fun w hSw => ?_) (by assumption) ?_
       rotate_left
       · ((try dsimp only [RqC] at hSw); go_simp <;> with_reducible rfl)
       try simp only [Act.put, zz1, zz2, zz3, zz4, zz5, zz6]
       rw [wrap_fits (x := (i0 : Int)) (by omega) (by omega)]
       refine wpTo_ts (i := 16) (v := ?_) rfl (by kernel_rfl) hSd (by rfl) (fun w hSw => ?_) (by assumption) ?_
       rotate_left
       · ((try dsimp only [RqC] at hSw); go_simp <;> with_reducible rfl)
       refine wpTo_ts (i := 17) (v := ?_) rfl (by kernel_rfl) hSd (by rfl) (fun w hSw => ?_) (by assumption) ?_
       rotate_left
       · ((try dsimp only [RqC] at hSw); go_simp <;> with_reducible rfl)
       refine wpTo_ts (i := 18) (v := ?_) rfl (by kernel_rfl) hSd (by rfl) (fun w hSw => ?_) (by assumption) ?_
       rotate_left
       · ((try dsimp only [RqC] at hSw); go_simp <;> with_reducible rfl)
       try simp only [Act.put, zz1, zz2, zz3, zz4, zz5, zz6]
       refine wpTo_ts (i := 19) (v := ?_) rfl (by kernel_rfl) hSd (by rfl) (fun w hSw => ?_) (by assumption) ?_
       rotate_left
       · ((try dsimp only [RqC] at hSw); go_simp <;> with_reducible rfl)
       refine wpTo_ts (i := 20) (v := ?_) rfl (by kernel_rfl) hSd (by rfl) (fun w hSw => ?_) (by assumption) ?_
       rotate_left
       · ((try dsimp only [RqC] at hSw); go_simp <;> with_reducible rfl)
       refine wpTo_ts (i := 21) (v := ?_) rfl (by kernel_rfl) hSd (by rfl) (fun w hSw => ?_) (by assumption) ?_
       rotate_left
       · ((try dsimp only [RqC] at hSw); go_simp <;> with_reducible rfl)
       try simp only [Act.put, zz1, zz2, zz3, zz4, zz5, zz6]
       try rw [wrap_fits (x := sm + q.gram) (by omega) (by omega)]
       refine wpTo_ts (i := 22) (v := ?_) rfl (by kernel_rfl) hSd (by rfl) (fun w hSw => ?_) (by assumption) ?_
       rotate_left
       · ((try dsimp only [RqC] at hSw); go_simp <;> with_reducible rfl)
       try simp only [Act.put, zz1, zz2, zz3, zz4, zz5, zz6]
       refine wpTo_ts (i := 23) (v := ?_) rfl (by kernel_rfl) hSd (by rfl) (fun w hSw => ?_) (by assumption) ?_
       rotate_left
       · ((try dsimp only [RqC] at hSw); go_simp <;> with_reducible rfl)
       refine wpTo_ts (i := 24) (v := ?_) rfl (by kernel_rfl) hSd (by rfl) (fun w hSw => ?_) (by assumption) ?_
       rotate_left
       · ((try dsimp only [RqC] at hSw); go_simp <;> with_reducible rfl)
       try simp only [Act.put, zz1, zz2, zz3, zz4, zz5, zz6]
       try rw [show decide (sm + q.gram ≤ p.gram) = false from decide_eq_false n2]
       refine wpTo_ts (i := 25) (v := ?_) rfl (by kernel_rfl) hSd (by rfl) (fun w hSw => ?_) (by assumption) ?_
       rotate_left
       · ((try dsimp only [RqC] at hSw); go_simp <;> with_reducible rfl)
       refine wpTo_ts (i := 26) (v := ?_) rfl (by kernel_rfl) hSd (by rfl) (fun w hSw => ?_) (by assumption) ?_
       rotate_left
       · ((try dsimp only [RqC] at hSw); go_simp <;> with_reducible rfl)
       try simp only [Act.put, zz1, zz2, zz3, zz4, zz5, zz6]
       refine wpTo_ts (i := 27) (v := ?_) rfl (by kernel_rfl) hSd (by rfl) (fun w hSw => ?_) (by assumption) ?_
       rotate_left
       · ((try dsimp only [RqC] at hSw); go_simp <;> with_reducible rfl)
       refine wpTo_ts (i := 28) (v := ?_) rfl (by kernel_rfl) hSd (by rfl) (fun w hSw => ?_) (by assumption) ?_
       rotate_left
       · ((try dsimp only [RqC] at hSw); go_simp <;> with_reducible rfl)
       refine wpTo_ts (i := 29) (v := ?_) rfl (by kernel_rfl) hSd (by rfl) (fun w hSw => ?_) (by assumption) ?_
       rotate_left
       · ((try dsimp only [RqC] at hSw); go_simp <;> with_reducible rfl)
       try simp only [Act.put, zz1, zz2, zz3, zz4, zz5, zz6]
       refine wpTo_ts (i := 30) (v := ?_) rfl (by kernel_rfl) hSd (by rfl) (fun w hSw => ?_) (by assumption) ?_
       rotate_left
       · ((try dsimp only [RqC] at hSw); go_simp <;> with_reducible rfl)
       refine wpTo_ts (i := 31) (v := ?_) rfl (by kernel_rfl) hSd (by rfl) (fun w hSw => ?_) (by assumption) ?_
       rotate_left
       · ((try dsimp only [RqC] at hSw); go_simp <;> with_reducible rfl)
       refine wpTo_ts (i := 32) (v := ?_) rfl (by kernel_rfl) hSd (by rfl) (fun w hSw => ?_) (by assumption) ?_
       rotate_left
       · ((try dsimp only [RqC] at hSw); go_simp <;> with_reducible rfl)
       try simp only [Act.put, zz1, zz2, zz3, zz4, zz5, zz6]
       refine wpTo_ts (i := 33) (v := ?_) rfl (by kernel_rfl) hSd (by rfl) (fun w hSw => ?_) (by assumption) ?_
       rotate_left
       · ((try dsimp only [RqC] at hSw); go_simp <;> with_reducible rfl)
       refine wpTo_ts (i := 34) (v := ?_) rfl (by kernel_rfl) hSd (by rfl) (fun w hSw => ?_) (by assumption) ?_
       rotate_left
       · ((try dsimp only [RqC] at hSw); go_simp <;> with_reducible rfl)
       refine wpTo_ts (i := 35) (v := ?_) rfl (by kernel_rfl) hSd (by rfl) (fun w hSw => ?_) (by assumption) ?_
       rotate_left
       · ((try dsimp only [RqC] at hSw); go_simp <;> with_reducible rfl)
       try simp only [Act.put, zz1, zz2, zz3, zz4, zz5, zz6]
       refine wpTo_done (by kernel_rfl) ?_ _
       refine NoPanic.normal ?_
       go_wp2_with fail
       go_meet
       case rel => exact ⟨rfl, unhide Bu0⟩
    case rest =>
     obtain ⟨rfl, hb8⟩ := hcut
     have HBE := hide (hbl0.out.trans ((HBX0.out.trans (hb8.mono HBX0.out.size)).mono hbl0.out.size))
     clear hb8
     go_wp2_with fail
     go_roundw
     case rel => exact ⟨i0 + 1 + 1, by omega, by go_num, unhide HBE⟩
     case measure => simp [intOf]; omega
end Go.Proofs.Ytcblpoeeembniaa
