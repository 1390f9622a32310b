/- What units come to, what a carton takes: the program's small functions. -/
import Derived.Test.YtcblpoeeembniabGreatDoorPackPlain
import Derived.Test.YtcblpoeeembniabGreatDoorVolOf
import Derived.Test.YtcblpoeeembniabGreatDoorPkD
import Derived.Test.YtcblpoeeembniabGreatDoorPkF
import Derived.Test.YtcblpoeeembniabGreatDoorAppendSome
import Derived.Deep.DeepMust
import Derived.Deep.DeepCutAuto
import Derived.Deep.RegionHeld3
namespace Go.Proofs.YtcblpoeeembniabGreatDoor
open Go.RowKit
set_option linter.unusedVariables false
set_option linter.unusedSimpArgs false

theorem Blk.fill2 {w : World} {g : Nat} {a b x y : Value} (h : Blk w g [a, b]) : Blk ((w.setCell ⟨g, 0, none⟩ x).setCell ⟨g, 1, none⟩ y) g [x, y] :=
 (h.set (j := 0) (v := x) (by simp)).set (j := 1) (v := y) (by simp)
theorem ret_bulk {a b c d : Int} (h1 : a = c) (h2 : b = d) : Ending.returned (.agg #[.int .i64 a, .int .i64 b]) = .returned (.agg #[.int .i64 c, .int .i64 d]) := by rw [h1, h2]

set_option maxHeartbeats 1000000 in
theorem isIn_any (a b c d : Int) (w : World) :
 Calls Tryz.prog 46 #[.agg #[.int .i64 a, .int .i64 b], .agg #[.int .i64 c, .int .i64 d]] w fun e w' => e = .returned (.bool (decide (a ≤ c) && decide (b ≤ d))) ∧ Below w.heap.size w w' := by
 by_cases h1 : a ≤ c <;> by_cases h2 : b ≤ d
 all_goals
  go_enter Tryz.func46, Tryz.ntmps46
  go_wp2
  go_ret
  exact ⟨by simp [h1, h2], ((Below.refl _ _).alloc (Nat.le_refl _) _).alloc (by simp) _⟩

set_option maxHeartbeats 1000000 in
theorem mostOf_any (t : TypeV) (w : World) : Calls Tryz.prog 47 #[.agg #[.int .i64 t.id, .int .i64 t.wd, .int .i64 t.ht, .int .i64 t.dp, .int .i64 t.tare, .int .i64 t.gram, .int .i64 t.cost]] w fun e w' => e = .returned (.agg #[.int .i64 (vol t.wd t.ht t.dp), .int .i64 t.gram]) ∧ Below w.heap.size w w' := by
 go_enter Tryz.func47, Tryz.ntmps47
 go_wp2_with fail
 generalize hW : ((w.alloc (.cells #[.int .i64 t.id, .int .i64 t.wd, .int .i64 t.ht, .int .i64 t.dp, .int .i64 t.tare, .int .i64 t.gram, .int .i64 t.cost] 54)).alloc (.cells #[.int .i64 0, .int .i64 0] 81)) = W at *
 obtain ⟨BW, KtW, ZtW, KbW, ZbW⟩ := en2 hW
 have Gt : w.heap.size ≤ w.heap.size := by omega
 have Gb : w.heap.size ≤ (w.heap.size + 1) := by omega
 have Nqtb : w.heap.size ≠ (w.heap.size + 1) := by omega
 clear hW
 go_cut [2] (fun v wc => v = .pointer (some ⟨w.heap.size + 1, 0, none⟩) ∧ Blk wc (w.heap.size + 1) [.int .i64 (vol t.wd t.ht t.dp), .int .i64 t.gram] ∧ Below w.heap.size w wc)
 case first =>
  refine wp_region_noPanic ?_
  have Bu0 : Hid (Below w.heap.size w W.drew) := BW.out.drew
  have Ktu0 : Hid (Blk W.drew w.heap.size [.int .i64 t.id, .int .i64 t.wd, .int .i64 t.ht, .int .i64 t.dp, .int .i64 t.tare, .int .i64 t.gram, .int .i64 t.cost]) := unhide KtW
  have Ztu0 : w.heap.size < W.drew.heap.size := ZtW
  have Kbu0 : Hid (Blk W.drew (w.heap.size + 1) [.int .i64 0, .int .i64 0]) := unhide KbW
  have Zbu0 : (w.heap.size + 1) < W.drew.heap.size := ZbW
  obtain ⟨S, hSdef⟩ : ∃ S : World → Prop, S = (fun w' => w'.cell? ⟨w.heap.size, 1, none⟩ = some (.int .i64 t.wd) ∧ w'.cell? ⟨w.heap.size, 2, none⟩ = some (.int .i64 t.ht) ∧ w'.cell? ⟨w.heap.size, 3, none⟩ = some (.int .i64 t.dp) ∧ w'.cell? ⟨w.heap.size, 5, none⟩ = some (.int .i64 t.gram)) := ⟨_, rfl⟩
  have hSmk : ∀ wq, Blk wq w.heap.size [.int .i64 t.id, .int .i64 t.wd, .int .i64 t.ht, .int .i64 t.dp, .int .i64 t.tare, .int .i64 t.gram, .int .i64 t.cost] → S wq := fun wq kt => by rw [hSdef]; exact ⟨(kt 1 (by simp)).1, (kt 2 (by simp)).1, (kt 3 (by simp)).1, (kt 5 (by simp)).1⟩
  have hSd : ∀ wq, S wq → (fun w' => w'.cell? ⟨w.heap.size, 1, none⟩ = some (.int .i64 t.wd) ∧ w'.cell? ⟨w.heap.size, 2, none⟩ = some (.int .i64 t.ht) ∧ w'.cell? ⟨w.heap.size, 3, none⟩ = some (.int .i64 t.dp) ∧ w'.cell? ⟨w.heap.size, 5, none⟩ = some (.int .i64 t.gram)) wq := fun wq h => by rw [hSdef] at h; exact h
  clear hSdef
  have hHeld : S W.drew := hSmk W.drew Ktu0.out
  refine wp_region_to (S := S) (T := [10]) (by kernel_rfl) hHeld (fun _ => ?_)
  generalize W.drew = u0 at *
  refine wpTo_ts (i := 0) (v := ?_) rfl (by kernel_rfl) hSd (by rfl) (fun w hSw => ?_) (by assumption) ?_
  rotate_left
  · ((try dsimp only [RqC] at hSw); go_simp <;> with_reducible rfl)
  refine wpTo_ts (i := 1) (v := ?_) rfl (by kernel_rfl) hSd (by rfl) (fun w hSw => ?_) (by assumption) ?_
  rotate_left
  · ((try dsimp only [RqC] at hSw); go_simp <;> with_reducible rfl)
  refine wpTo_ts (i := 2) (v := ?_) rfl (by kernel_rfl) hSd (by rfl) (fun w hSw => ?_) (by assumption) ?_
  rotate_left
  · ((try dsimp only [RqC] at hSw); go_simp <;> with_reducible rfl)
  try simp only [Act.put, zz1, zz2, zz3, zz4, zz5, zz6]
  refine wpTo_ts (i := 3) (v := ?_) rfl (by kernel_rfl) hSd (by rfl) (fun w hSw => ?_) (by assumption) ?_
  rotate_left
  · ((try dsimp only [RqC] at hSw); go_simp <;> with_reducible rfl)
  refine wpTo_ts (i := 4) (v := ?_) rfl (by kernel_rfl) hSd (by rfl) (fun w hSw => ?_) (by assumption) ?_
  rotate_left
  · ((try dsimp only [RqC] at hSw); go_simp <;> with_reducible rfl)
  refine wpTo_ts (i := 5) (v := ?_) rfl (by kernel_rfl) hSd (by rfl) (fun w hSw => ?_) (by assumption) ?_
  rotate_left
  · ((try dsimp only [RqC] at hSw); go_simp <;> with_reducible rfl)
  try simp only [Act.put, zz1, zz2, zz3, zz4, zz5, zz6]
  refine wpTo_ts (i := 7) (v := ?_) rfl (by kernel_rfl) hSd (by rfl) (fun w hSw => ?_) (by assumption) ?_
  rotate_left
  · ((try dsimp only [RqC] at hSw); go_simp <;> with_reducible rfl)
  refine wpTo_ts (i := 8) (v := ?_) rfl (by kernel_rfl) hSd (by rfl) (fun w hSw => ?_) (by assumption) ?_
  rotate_left
  · ((try dsimp only [RqC] at hSw); go_simp <;> with_reducible rfl)
  try simp only [Act.put, zz1, zz2, zz3, zz4, zz5, zz6]
  refine wpTo_ready (rs := [6]) (by kernel_rfl) (by simp) ?_
  refine AllTo.cons (o := _) rfl (fun K hK => ?_) ?_
  ·
   (try simp only [zz1, zz2, zz3])
   go_simp
   refine (volume_any _ _ _ _).mono ?_
   rintro e wz ⟨rfl, hwz⟩
   subst wz
   go_wp2_with fail
   have hHeld := hSmk u0 Ktu0.out
   refine hK.out _ _ (fun _ => hHeld) ?_
   clear hK K
   try simp only [Act.put, zz1, zz2, zz3, zz4, zz5, zz6]
   refine wpTo_ts (i := 9) (v := ?_) rfl (by kernel_rfl) hSd (by rfl) (fun w hSw => ?_) (by assumption) ?_
   rotate_left
   · ((try dsimp only [RqC] at hSw); go_simp <;> with_reducible rfl)
   try simp only [Act.put, zz1, zz2, zz3, zz4, zz5, zz6]
   refine wpTo_ready (rs := [10]) (by kernel_rfl) (by simp) ?_
   refine AllTo.cons (o := _) rfl (fun K hK => ?_) ?_
   ·
    (try simp only [zz1, zz2, zz3])
    have p0 := (Kbu0.out 0 (by simp)).1
    have q0 := (Kbu0.out 0 (by simp)).2
    have p1 := (Kbu0.out 1 (by simp)).1
    have q1 := (Kbu0.out 1 (by simp)).2
    go_simp
    clear p0 q0 p1 q1
    clear hHeld
    generalize hW : ((u0.setCell ⟨(w.heap.size + 1), 0, none⟩ (.int .i64 (vol t.wd t.ht t.dp))).setCell ⟨(w.heap.size + 1), 1, none⟩ (.int .i64 t.gram)) = u1 at *
    have Bu1 : Hid (Below w.heap.size w u1) := by rw [← hW]; exact ((Bu0.out.setCell Gb _).setCell Gb _)
    have Kbu1 : Hid (Blk u1 (w.heap.size + 1) [.int .i64 (vol t.wd t.ht t.dp), .int .i64 t.gram]) := by rw [← hW]; exact Blk.fill2 Kbu0.out
    have Zbu1 : (w.heap.size + 1) < u1.heap.size := by rw [← hW]; simpa using Zbu0
    have Ktu1 : Hid (Blk u1 w.heap.size [.int .i64 t.id, .int .i64 t.wd, .int .i64 t.ht, .int .i64 t.dp, .int .i64 t.tare, .int .i64 t.gram, .int .i64 t.cost]) := by rw [← hW]; exact ((Ktu0.out.other Nqtb).other Nqtb)
    have Ztu1 : w.heap.size < u1.heap.size := by rw [← hW]; simpa using Ztu0
    clear hW
    clear Bu0 Ktu0 Ztu0 Kbu0 Zbu0
    refine hK.out _ _ (fun hn => absurd (by decide) hn) ?_
    clear hK K
    try simp only [Act.put, zz1, zz2, zz3, zz4, zz5, zz6]
    refine wpTo_done (by kernel_rfl) ?_ _
    refine NoPanic.normal ?_
    go_wp2_with fail
    go_meet
    case rel => exact ⟨rfl, unhide Kbu1, unhide Bu1⟩
   exact AllTo.nil
  exact AllTo.nil
 case rest =>
  obtain ⟨rfl, hk, hb⟩ := hcut
  have k0 := (hk 0 (by simp)).1
  have k1 := (hk 1 (by simp)).1
  clear hk
  have HB := hide hb
  clear hb
  go_wp2
  exact bodyPost_ret (v := .agg #[.int .i64 (vol t.wd t.ht t.dp), .int .i64 t.gram]) (by simp [results, Tryz.results47, go_sem, k0, k1]) rfl ⟨rfl, unhide HB⟩

theorem Rd.of_blk1 {w : World} {g : Nat} {u : Int} (h : Blk w g [.int .i64 u]) : Rd w (some ⟨g, 0, none⟩) 1 [u] := ⟨rfl, fun i hi => by
 obtain rfl : i = 0 := by omega
 exact ⟨g, 0, rfl, (h 0 (by simp)).1⟩⟩
set_option maxHeartbeats 4000000 in
theorem bulkOf_any (r : ReqV) (h : ReqH) (a : Option Addr) (n c : Nat) (us : List Int) (w : World) (hr : RdReq w r h) (hs : r.small) (hg : ErrT w) (hu : Rd w a n us) (hn : n ≤ 1048600) :
 Calls Tryz.prog 45 #[reqVal r h, .slice a n c] w fun e w' => e = .returned (.agg #[.int .i64 (volOf (itemsR r) us), .int .i64 (gramOf (itemsR r) us)]) ∧ Below w.heap.size w w' := by
 have HR := hide hr
 have HG := hide hg
 have HU := hide hu
 clear hr hg hu
 unfold reqVal
 go_enter Tryz.func45, Tryz.ntmps45
 go_wp2_with fail
 generalize hW : ((w.alloc (.cells #[.int .i64 r.way, .int .i64 r.pal.wd, .int .i64 r.pal.dp, .int .i64 r.pal.ht, .int .i64 r.pal.gram, .int .i64 r.classes, .slice h.ap r.pairs.length h.cp, .slice h.at' r.types.length h.ct, .int .i64 r.master, .slice h.ai r.items.length h.ci] 41)).alloc (.cells #[.int .i64 0, .int .i64 0] 81)) = W at *
 obtain ⟨BW, KaW, ZaW, KbW, ZbW⟩ := en2 hW
 have Ga : w.heap.size ≤ w.heap.size := by omega
 have Gb : w.heap.size ≤ (w.heap.size + 1) := by omega
 have Nqab : w.heap.size ≠ (w.heap.size + 1) := by omega
 clear hW
 go_cut [4] (fun v wc => v = .pointer (some ⟨w.heap.size + 1, 0, none⟩) ∧ Blk wc (w.heap.size + 1) [.int .i64 (volOf (itemsR r) us), .int .i64 (gramOf (itemsR r) us)] ∧ Below w.heap.size w wc)
 case first =>
  refine wp_region_noPanic ?_
  have Bu0 : Hid (Below w.heap.size w W.drew) := BW.out.drew
  have Kau0 : Hid (Blk W.drew w.heap.size [.int .i64 r.way, .int .i64 r.pal.wd, .int .i64 r.pal.dp, .int .i64 r.pal.ht, .int .i64 r.pal.gram, .int .i64 r.classes, .slice h.ap r.pairs.length h.cp, .slice h.at' r.types.length h.ct, .int .i64 r.master, .slice h.ai r.items.length h.ci]) := unhide KaW
  have Zau0 : w.heap.size < W.drew.heap.size := ZaW
  have Kbu0 : Hid (Blk W.drew (w.heap.size + 1) [.int .i64 0, .int .i64 0]) := unhide KbW
  have Zbu0 : (w.heap.size + 1) < W.drew.heap.size := ZbW
  obtain ⟨S, hSdef⟩ : ∃ S : World → Prop, S = (fun w' => RqC w' w.heap.size r h) := ⟨_, rfl⟩
  have hSmk : ∀ wq, Blk wq w.heap.size [.int .i64 r.way, .int .i64 r.pal.wd, .int .i64 r.pal.dp, .int .i64 r.pal.ht, .int .i64 r.pal.gram, .int .i64 r.classes, .slice h.ap r.pairs.length h.cp, .slice h.at' r.types.length h.ct, .int .i64 r.master, .slice h.ai r.items.length h.ci] → S wq := fun wq ka => by rw [hSdef]; exact RqC.of ka
  have hSd : ∀ wq, S wq → (fun w' => RqC w' w.heap.size r h) wq := fun wq h => by rw [hSdef] at h; exact h
  clear hSdef
  have hHeld : S W.drew := hSmk W.drew Kau0.out
  refine wp_region_to (S := S) (T := [7]) (by kernel_rfl) hHeld (fun _ => ?_)
  generalize W.drew = u0 at *
  refine wpTo_ts (i := 0) (v := ?_) rfl (by kernel_rfl) hSd (by rfl) (fun w hSw => ?_) (by assumption) ?_
  rotate_left
  · ((try dsimp only [RqC] at hSw); go_simp <;> with_reducible rfl)
  refine wpTo_ts (i := 1) (v := ?_) rfl (by kernel_rfl) hSd (by rfl) (fun w hSw => ?_) (by assumption) ?_
  rotate_left
  · ((try dsimp only [RqC] at hSw); go_simp <;> with_reducible rfl)
  try simp only [Act.put, zz1, zz2, zz3, zz4, zz5, zz6]
  refine wpTo_ts (i := 3) (v := ?_) rfl (by kernel_rfl) hSd (by rfl) (fun w hSw => ?_) (by assumption) ?_
  rotate_left
  · ((try dsimp only [RqC] at hSw); go_simp <;> with_reducible rfl)
  refine wpTo_ts (i := 4) (v := ?_) rfl (by kernel_rfl) hSd (by rfl) (fun w hSw => ?_) (by assumption) ?_
  rotate_left
  · ((try dsimp only [RqC] at hSw); go_simp <;> with_reducible rfl)
  try simp only [Act.put, zz1, zz2, zz3, zz4, zz5, zz6]
  refine wpTo_ready (rs := [2]) (by kernel_rfl) (by simp) ?_
  refine AllTo.cons (o := _) rfl (fun K hK => ?_) ?_
  ·
   (try simp only [zz1, zz2, zz3])
   go_simp
   refine (volumeOf_any r h a n c us u0 (HR.out.mono Bu0.out) hs (HG.out.later Bu0.out) (HU.out.mono Bu0.out) hn).mono ?_
   rintro e u1 ⟨rfl, hb⟩
   have Bu1 := hide (Bu0.out.trans (hb.mono Bu0.out.size))
   have Kau1 := hide (Blk.below hb Zau0 Kau0.out)
   have Zau1 := Nat.lt_of_lt_of_le Zau0 hb.size
   have Kbu1 := hide (Blk.below hb Zbu0 Kbu0.out)
   have Zbu1 := Nat.lt_of_lt_of_le Zbu0 hb.size
   clear hb
   clear Bu0 Kau0 Zau0 Kbu0 Zbu0
   clear hHeld
   go_wp2_with fail
   have hHeld := hSmk u1 Kau1.out
   refine hK.out _ _ (fun _ => hHeld) ?_
   clear hK K
   try simp only [Act.put, zz1, zz2, zz3, zz4, zz5, zz6]
   refine wpTo_ready (rs := [5]) (by kernel_rfl) (by simp) ?_
   refine AllTo.cons (o := _) rfl (fun K hK => ?_) ?_
   ·
    (try simp only [zz1, zz2, zz3])
    go_simp
    refine (gramOf_any r h a n c us u1 (HR.out.mono Bu1.out) hs (HG.out.later Bu1.out) (HU.out.mono Bu1.out) hn).mono ?_
    rintro e u2 ⟨rfl, hb⟩
    have Bu2 := hide (Bu1.out.trans (hb.mono Bu1.out.size))
    have Kau2 := hide (Blk.below hb Zau1 Kau1.out)
    have Zau2 := Nat.lt_of_lt_of_le Zau1 hb.size
    have Kbu2 := hide (Blk.below hb Zbu1 Kbu1.out)
    have Zbu2 := Nat.lt_of_lt_of_le Zbu1 hb.size
    clear hb
    clear Bu1 Kau1 Zau1 Kbu1 Zbu1
    clear hHeld
    go_wp2_with fail
    have hHeld := hSmk u2 Kau2.out
    refine hK.out _ _ (fun _ => hHeld) ?_
    clear hK K
    try simp only [Act.put, zz1, zz2, zz3, zz4, zz5, zz6]
    refine wpTo_ts (i := 6) (v := ?_) rfl (by kernel_rfl) hSd (by rfl) (fun w hSw => ?_) (by assumption) ?_
    rotate_left
    · ((try dsimp only [RqC] at hSw); go_simp <;> with_reducible rfl)
    try simp only [Act.put, zz1, zz2, zz3, zz4, zz5, zz6]
    refine wpTo_ready (rs := [7]) (by kernel_rfl) (by simp) ?_
    refine AllTo.cons (o := _) rfl (fun K hK => ?_) ?_
    ·
     (try simp only [zz1, zz2, zz3])
     have p0 := (Kbu2.out 0 (by simp)).1
     have q0 := (Kbu2.out 0 (by simp)).2
     have p1 := (Kbu2.out 1 (by simp)).1
     have q1 := (Kbu2.out 1 (by simp)).2
     go_simp
     clear p0 q0 p1 q1
     clear hHeld
     generalize hW : ((u2.setCell ⟨(w.heap.size + 1), 0, none⟩ (.int .i64 (volOf (itemsR r) us))).setCell ⟨(w.heap.size + 1), 1, none⟩ (.int .i64 (gramOf (itemsR r) us))) = u3 at *
     have Bu3 : Hid (Below w.heap.size w u3) := by rw [← hW]; exact ((Bu2.out.setCell Gb _).setCell Gb _)
     have Kbu3 : Hid (Blk u3 (w.heap.size + 1) [.int .i64 (volOf (itemsR r) us), .int .i64 (gramOf (itemsR r) us)]) := by rw [← hW]; exact Blk.fill2 Kbu2.out
     have Zbu3 : (w.heap.size + 1) < u3.heap.size := by rw [← hW]; simpa using Zbu2
     have Kau3 : Hid (Blk u3 w.heap.size [.int .i64 r.way, .int .i64 r.pal.wd, .int .i64 r.pal.dp, .int .i64 r.pal.ht, .int .i64 r.pal.gram, .int .i64 r.classes, .slice h.ap r.pairs.length h.cp, .slice h.at' r.types.length h.ct, .int .i64 r.master, .slice h.ai r.items.length h.ci]) := by rw [← hW]; exact ((Kau2.out.other Nqab).other Nqab)
     have Zau3 : w.heap.size < u3.heap.size := by rw [← hW]; simpa using Zau2
     clear hW
     clear Bu2 Kau2 Zau2 Kbu2 Zbu2
     refine hK.out _ _ (fun hn => absurd (by decide) hn) ?_
     clear hK K
     try simp only [Act.put, zz1, zz2, zz3, zz4, zz5, zz6]
     refine wpTo_done (by kernel_rfl) ?_ _
     refine NoPanic.normal ?_
     go_wp2_with fail
     go_meet
     case rel => exact ⟨rfl, unhide Kbu3, unhide Bu3⟩
    exact AllTo.nil
   exact AllTo.nil
  exact AllTo.nil
 case rest =>
  obtain ⟨rfl, hk, hb⟩ := hcut
  have k0 := (hk 0 (by simp)).1
  have k1 := (hk 1 (by simp)).1
  clear hk
  have HB := hide hb
  clear hb
  go_wp2
  exact bodyPost_ret (v := .agg #[.int .i64 (volOf (itemsR r) us), .int .i64 (gramOf (itemsR r) us)]) (by simp [results, Tryz.results45, go_sem, k0, k1]) rfl ⟨rfl, unhide HB⟩

end Go.Proofs.YtcblpoeeembniabGreatDoor
