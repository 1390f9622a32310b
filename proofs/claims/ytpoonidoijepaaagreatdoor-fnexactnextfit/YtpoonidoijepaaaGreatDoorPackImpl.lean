/- What units come to, what a carton takes: the program's small functions. -/
import Derived.Test.YtpoonidoijepaaaGreatDoorPackPlain
import Derived.Test.YtpoonidoijepaaaGreatDoorVolOf
import Derived.Test.YtpoonidoijepaaaGreatDoorPkD
import Derived.Test.YtpoonidoijepaaaGreatDoorPkF
import Derived.Test.YtpoonidoijepaaaGreatDoorAppendSome
import Derived.Deep.DeepMust
import Derived.Deep.DeepCutAuto
import Derived.Deep.RegionHeld3
namespace Go.Proofs.YtpoonidoijepaaaGreatDoor
open Go.RowKit
set_option linter.unusedVariables false
set_option linter.unusedSimpArgs false

theorem Blk.fill2 {w : World} {g : Nat} {a b x y : Value} (h : Blk w g [a, b]) : Blk ((w.setCell ⟨g, 0, none⟩ x).setCell ⟨g, 1, none⟩ y) g [x, y] :=
  (h.set (j := 0) (v := x) (by simp)).set (j := 1) (v := y) (by simp)
theorem ret_bulk {a b c d : Int} (h1 : a = c) (h2 : b = d) : Ending.returned (.agg #[.int .i64 a, .int .i64 b]) = .returned (.agg #[.int .i64 c, .int .i64 d]) := by rw [h1, h2]

set_option maxHeartbeats 1000000 in
theorem with_any (a b c d : Int) (w : World) (h1 : -9223372036854775808 ≤ a + c) (h2 : a + c ≤ 9223372036854775807) (h3 : -9223372036854775808 ≤ b + d) (h4 : b + d ≤ 9223372036854775807) :
    Calls Tryz.prog 47 #[.agg #[.int .i64 a, .int .i64 b], .agg #[.int .i64 c, .int .i64 d]] w fun e w' => e = .returned (.agg #[.int .i64 (a + c), .int .i64 (b + d)]) ∧ Below w.heap.size w w' := by
  go_enter Tryz.func47, Tryz.ntmps47
  go_wp2
  have hB : Below w.heap.size w (((w.alloc (.cells #[.int .i64 a, .int .i64 b] 70)).alloc (.cells #[.int .i64 c, .int .i64 d] 70)).alloc (.cells #[.int .i64 (a + c), .int .i64 (b + d)] 70)) := (((Below.refl _ _).alloc (Nat.le_refl _) _).alloc (by simp) _).alloc (by simp; omega) _
  have hk : Blk (((w.alloc (.cells #[.int .i64 a, .int .i64 b] 70)).alloc (.cells #[.int .i64 c, .int .i64 d] 70)).alloc (.cells #[.int .i64 (a + c), .int .i64 (b + d)] 70)) (w.heap.size + 1 + 1) [.int .i64 (a + c), .int .i64 (b + d)] := Blk.allocAt [.int .i64 (a + c), .int .i64 (b + d)] (by simp)
  generalize (((w.alloc (.cells #[.int .i64 a, .int .i64 b] 70)).alloc (.cells #[.int .i64 c, .int .i64 d] 70)).alloc (.cells #[.int .i64 (a + c), .int .i64 (b + d)] 70)) = w3 at *
  have k0 := (hk 0 (by simp)).1
  have k1 := (hk 1 (by simp)).1
  exact bodyPost_ret (v := .agg #[.int .i64 (a + c), .int .i64 (b + d)]) (by simp [results, Tryz.results47, go_sem, k0, k1]) rfl ⟨rfl, hB⟩
set_option maxHeartbeats 1000000 in
theorem isIn_any (a b c d : Int) (w : World) :
    Calls Tryz.prog 48 #[.agg #[.int .i64 a, .int .i64 b], .agg #[.int .i64 c, .int .i64 d]] w fun e w' => e = .returned (.bool (decide (a ≤ c) && decide (b ≤ d))) ∧ Below w.heap.size w w' := by
  by_cases h1 : a ≤ c <;> by_cases h2 : b ≤ d
  all_goals
    go_enter Tryz.func48, Tryz.ntmps48
    go_wp2
    go_ret
    exact ⟨by simp [h1, h2], ((Below.refl _ _).alloc (Nat.le_refl _) _).alloc (by simp) _⟩

set_option maxHeartbeats 1000000 in
theorem mostOf_any (t : TypeV) (w : World) : Calls Tryz.prog 49 #[.agg #[.int .i64 t.id, .int .i64 t.wd, .int .i64 t.ht, .int .i64 t.dp, .int .i64 t.tare, .int .i64 t.gram, .int .i64 t.cost]] w fun e w' => e = .returned (.agg #[.int .i64 (vol t.wd t.ht t.dp), .int .i64 t.gram]) ∧ Below w.heap.size w w' := by
  go_enter Tryz.func49, Tryz.ntmps49
  go_wp2_with fail
  have BW : Hid (Below w.heap.size w ((w.alloc (.cells #[.int .i64 t.id, .int .i64 t.wd, .int .i64 t.ht, .int .i64 t.dp, .int .i64 t.tare, .int .i64 t.gram, .int .i64 t.cost] 41)).alloc (.cells #[.int .i64 0, .int .i64 0] 70))) := (((Below.refl _ _).alloc (by simp) _).alloc (by simp) _)
  have KtW : Hid (Blk ((w.alloc (.cells #[.int .i64 t.id, .int .i64 t.wd, .int .i64 t.ht, .int .i64 t.dp, .int .i64 t.tare, .int .i64 t.gram, .int .i64 t.cost] 41)).alloc (.cells #[.int .i64 0, .int .i64 0] 70)) w.heap.size [.int .i64 t.id, .int .i64 t.wd, .int .i64 t.ht, .int .i64 t.dp, .int .i64 t.tare, .int .i64 t.gram, .int .i64 t.cost]) := ((Blk.allocAt (w := w) [.int .i64 t.id, .int .i64 t.wd, .int .i64 t.ht, .int .i64 t.dp, .int .i64 t.tare, .int .i64 t.gram, .int .i64 t.cost] (by simp)).allocOld (by simp) _)
  have ZtW : w.heap.size < ((w.alloc (.cells #[.int .i64 t.id, .int .i64 t.wd, .int .i64 t.ht, .int .i64 t.dp, .int .i64 t.tare, .int .i64 t.gram, .int .i64 t.cost] 41)).alloc (.cells #[.int .i64 0, .int .i64 0] 70)).heap.size := by simp <;> omega
  have Gt : w.heap.size ≤ w.heap.size := by omega
  have KbW : Hid (Blk ((w.alloc (.cells #[.int .i64 t.id, .int .i64 t.wd, .int .i64 t.ht, .int .i64 t.dp, .int .i64 t.tare, .int .i64 t.gram, .int .i64 t.cost] 41)).alloc (.cells #[.int .i64 0, .int .i64 0] 70)) (w.heap.size + 1) [.int .i64 0, .int .i64 0]) := (Blk.allocAt (w := (w.alloc (.cells #[.int .i64 t.id, .int .i64 t.wd, .int .i64 t.ht, .int .i64 t.dp, .int .i64 t.tare, .int .i64 t.gram, .int .i64 t.cost] 41))) [.int .i64 0, .int .i64 0] (by simp))
  have ZbW : (w.heap.size + 1) < ((w.alloc (.cells #[.int .i64 t.id, .int .i64 t.wd, .int .i64 t.ht, .int .i64 t.dp, .int .i64 t.tare, .int .i64 t.gram, .int .i64 t.cost] 41)).alloc (.cells #[.int .i64 0, .int .i64 0] 70)).heap.size := by simp
  have Gb : w.heap.size ≤ (w.heap.size + 1) := by omega
  have Nqtb : w.heap.size ≠ (w.heap.size + 1) := by omega
  have Nqbt : (w.heap.size + 1) ≠ w.heap.size := by omega
  generalize ((w.alloc (.cells #[.int .i64 t.id, .int .i64 t.wd, .int .i64 t.ht, .int .i64 t.dp, .int .i64 t.tare, .int .i64 t.gram, .int .i64 t.cost] 41)).alloc (.cells #[.int .i64 0, .int .i64 0] 70)) = W at *
  go_cut [2] (fun v wc => v = .pointer (some ⟨w.heap.size + 1, 0, none⟩) ∧ Blk wc (w.heap.size + 1) [.int .i64 (vol t.wd t.ht t.dp), .int .i64 t.gram] ∧ Below w.heap.size w wc)
  case first =>
    refine wp_region_noPanic ?_
    have Bu0 : Hid (Below w.heap.size w W.drew) := (unhide BW).drew
    have Ktu0 : Hid (Blk W.drew w.heap.size [.int .i64 t.id, .int .i64 t.wd, .int .i64 t.ht, .int .i64 t.dp, .int .i64 t.tare, .int .i64 t.gram, .int .i64 t.cost]) := unhide KtW
    have Ztu0 : w.heap.size < W.drew.heap.size := ZtW
    have Kbu0 : Hid (Blk W.drew (w.heap.size + 1) [.int .i64 0, .int .i64 0]) := unhide KbW
    have Zbu0 : (w.heap.size + 1) < W.drew.heap.size := ZbW
    obtain ⟨S, hSdef⟩ : ∃ S : World → Prop, S = (fun w' => w'.cell? ⟨w.heap.size, 1, none⟩ = some (.int .i64 t.wd) ∧ w'.cell? ⟨w.heap.size, 2, none⟩ = some (.int .i64 t.ht) ∧ w'.cell? ⟨w.heap.size, 3, none⟩ = some (.int .i64 t.dp) ∧ w'.cell? ⟨w.heap.size, 5, none⟩ = some (.int .i64 t.gram)) := ⟨_, rfl⟩
    have hSmk : ∀ x, Blk x w.heap.size [.int .i64 t.id, .int .i64 t.wd, .int .i64 t.ht, .int .i64 t.dp, .int .i64 t.tare, .int .i64 t.gram, .int .i64 t.cost] → S x := fun x kt => by rw [hSdef]; exact ⟨(kt 1 (by simp)).1, (kt 2 (by simp)).1, (kt 3 (by simp)).1, (kt 5 (by simp)).1⟩
    have hSd : ∀ x, S x → (fun w' => w'.cell? ⟨w.heap.size, 1, none⟩ = some (.int .i64 t.wd) ∧ w'.cell? ⟨w.heap.size, 2, none⟩ = some (.int .i64 t.ht) ∧ w'.cell? ⟨w.heap.size, 3, none⟩ = some (.int .i64 t.dp) ∧ w'.cell? ⟨w.heap.size, 5, none⟩ = some (.int .i64 t.gram)) x := fun x h => by rw [hSdef] at h; exact h
    clear hSdef
    have hHeld : S W.drew := hSmk W.drew (unhide Ktu0)
    refine wp_region_to (S := S) (T := [10]) (by kernel_rfl) hHeld (fun _ => ?_)
    generalize W.drew = u0 at *
    refine wpTo_take (i := 0) (v := ?_) rfl (by kernel_rfl) (by kernel_rfl) (by kernel_rfl) (by kernel_rfl) (by kernel_rfl) (fun _ _ _ h => h) (Or.inl ⟨by rfl, ?_⟩) (by assumption) ?_
    rotate_left
    · intro w hSw
      have hSw := hSd _ hSw
      (try dsimp only at hSw)
      go_simp <;> with_reducible rfl
    try simp only [Act.put, List.getElem_toArray, List.getElem_cons_zero, List.getElem_cons_succ, List.setIfInBounds_toArray, List.set_cons_zero, List.set_cons_succ]
    refine wpTo_take (i := 1) (v := ?_) rfl (by kernel_rfl) (by kernel_rfl) (by kernel_rfl) (by kernel_rfl) (by kernel_rfl) (fun _ _ _ h => h) (Or.inl ⟨by rfl, ?_⟩) (by assumption) ?_
    rotate_left
    · intro w hSw
      have hSw := hSd _ hSw
      (try dsimp only at hSw)
      go_simp <;> with_reducible rfl
    try simp only [Act.put, List.getElem_toArray, List.getElem_cons_zero, List.getElem_cons_succ, List.setIfInBounds_toArray, List.set_cons_zero, List.set_cons_succ]
    refine wpTo_take (i := 2) (v := ?_) rfl (by kernel_rfl) (by kernel_rfl) (by kernel_rfl) (by kernel_rfl) (by kernel_rfl) (fun _ _ _ h => h) (Or.inl ⟨by rfl, ?_⟩) (by assumption) ?_
    rotate_left
    · intro w hSw
      have hSw := hSd _ hSw
      (try dsimp only at hSw)
      go_simp <;> with_reducible rfl
    try simp only [Act.put, List.getElem_toArray, List.getElem_cons_zero, List.getElem_cons_succ, List.setIfInBounds_toArray, List.set_cons_zero, List.set_cons_succ]
    refine wpTo_take (i := 3) (v := ?_) rfl (by kernel_rfl) (by kernel_rfl) (by kernel_rfl) (by kernel_rfl) (by kernel_rfl) (fun _ _ _ h => h) (Or.inl ⟨by rfl, ?_⟩) (by assumption) ?_
    rotate_left
    · intro w hSw
      have hSw := hSd _ hSw
      (try dsimp only at hSw)
      go_simp <;> with_reducible rfl
    try simp only [Act.put, List.getElem_toArray, List.getElem_cons_zero, List.getElem_cons_succ, List.setIfInBounds_toArray, List.set_cons_zero, List.set_cons_succ]
    refine wpTo_take (i := 4) (v := ?_) rfl (by kernel_rfl) (by kernel_rfl) (by kernel_rfl) (by kernel_rfl) (by kernel_rfl) (fun _ _ _ h => h) (Or.inl ⟨by rfl, ?_⟩) (by assumption) ?_
    rotate_left
    · intro w hSw
      have hSw := hSd _ hSw
      (try dsimp only at hSw)
      go_simp <;> with_reducible rfl
    try simp only [Act.put, List.getElem_toArray, List.getElem_cons_zero, List.getElem_cons_succ, List.setIfInBounds_toArray, List.set_cons_zero, List.set_cons_succ]
    refine wpTo_take (i := 5) (v := ?_) rfl (by kernel_rfl) (by kernel_rfl) (by kernel_rfl) (by kernel_rfl) (by kernel_rfl) (fun _ _ _ h => h) (Or.inl ⟨by rfl, ?_⟩) (by assumption) ?_
    rotate_left
    · intro w hSw
      have hSw := hSd _ hSw
      (try dsimp only at hSw)
      go_simp <;> with_reducible rfl
    try simp only [Act.put, List.getElem_toArray, List.getElem_cons_zero, List.getElem_cons_succ, List.setIfInBounds_toArray, List.set_cons_zero, List.set_cons_succ]
    refine wpTo_take (i := 7) (v := ?_) rfl (by kernel_rfl) (by kernel_rfl) (by kernel_rfl) (by kernel_rfl) (by kernel_rfl) (fun _ _ _ h => h) (Or.inl ⟨by rfl, ?_⟩) (by assumption) ?_
    rotate_left
    · intro w hSw
      have hSw := hSd _ hSw
      (try dsimp only at hSw)
      go_simp <;> with_reducible rfl
    try simp only [Act.put, List.getElem_toArray, List.getElem_cons_zero, List.getElem_cons_succ, List.setIfInBounds_toArray, List.set_cons_zero, List.set_cons_succ]
    refine wpTo_take (i := 8) (v := ?_) rfl (by kernel_rfl) (by kernel_rfl) (by kernel_rfl) (by kernel_rfl) (by kernel_rfl) (fun _ _ _ h => h) (Or.inl ⟨by rfl, ?_⟩) (by assumption) ?_
    rotate_left
    · intro w hSw
      have hSw := hSd _ hSw
      (try dsimp only at hSw)
      go_simp <;> with_reducible rfl
    try simp only [Act.put, List.getElem_toArray, List.getElem_cons_zero, List.getElem_cons_succ, List.setIfInBounds_toArray, List.set_cons_zero, List.set_cons_succ]
    refine wpTo_ready (rs := [6]) (by kernel_rfl) (by simp) ?_
    refine AllTo.cons (o := _) rfl (fun K hK => ?_) ?_
    · (try simp only [List.getElem_toArray, List.getElem_cons_zero, List.getElem_cons_succ])
      go_simp
      refine (volume_any _ _ _ _).mono ?_
      rintro e wz ⟨rfl, hwz⟩
      subst wz
      go_wp2_with fail
      have hHeld := hSmk u0 (unhide Ktu0)
      refine hK.out _ _ (fun _ => hHeld) ?_
      clear hK K
      try simp only [Act.put, List.getElem_toArray, List.getElem_cons_zero, List.getElem_cons_succ, List.setIfInBounds_toArray, List.set_cons_zero, List.set_cons_succ]
      refine wpTo_take (i := 9) (v := ?_) rfl (by kernel_rfl) (by kernel_rfl) (by kernel_rfl) (by kernel_rfl) (by kernel_rfl) (fun _ _ _ h => h) (Or.inl ⟨by rfl, ?_⟩) (by assumption) ?_
      rotate_left
      · intro w hSw
        have hSw := hSd _ hSw
        (try dsimp only at hSw)
        go_simp <;> with_reducible rfl
      try simp only [Act.put, List.getElem_toArray, List.getElem_cons_zero, List.getElem_cons_succ, List.setIfInBounds_toArray, List.set_cons_zero, List.set_cons_succ]
      refine wpTo_ready (rs := [10]) (by kernel_rfl) (by simp) ?_
      refine AllTo.cons (o := _) rfl (fun K hK => ?_) ?_
      · (try simp only [List.getElem_toArray, List.getElem_cons_zero, List.getElem_cons_succ])
        have p0 := ((unhide Kbu0) 0 (by simp)).1
        have q0 := ((unhide Kbu0) 0 (by simp)).2
        have p1 := ((unhide Kbu0) 1 (by simp)).1
        have q1 := ((unhide Kbu0) 1 (by simp)).2
        go_simp
        clear p0 q0 p1 q1
        have Bu1 : Hid (Below w.heap.size w ((u0.setCell ⟨(w.heap.size + 1), 0, none⟩ (.int .i64 (vol t.wd t.ht t.dp))).setCell ⟨(w.heap.size + 1), 1, none⟩ (.int .i64 t.gram))) := (((unhide Bu0).setCell Gb _).setCell Gb _)
        have Kbu1 : Hid (Blk ((u0.setCell ⟨(w.heap.size + 1), 0, none⟩ (.int .i64 (vol t.wd t.ht t.dp))).setCell ⟨(w.heap.size + 1), 1, none⟩ (.int .i64 t.gram)) (w.heap.size + 1) [.int .i64 (vol t.wd t.ht t.dp), .int .i64 t.gram]) := Blk.fill2 (unhide Kbu0)
        have Zbu1 : (w.heap.size + 1) < ((u0.setCell ⟨(w.heap.size + 1), 0, none⟩ (.int .i64 (vol t.wd t.ht t.dp))).setCell ⟨(w.heap.size + 1), 1, none⟩ (.int .i64 t.gram)).heap.size := by simpa using Zbu0
        have Ktu1 : Hid (Blk ((u0.setCell ⟨(w.heap.size + 1), 0, none⟩ (.int .i64 (vol t.wd t.ht t.dp))).setCell ⟨(w.heap.size + 1), 1, none⟩ (.int .i64 t.gram)) w.heap.size [.int .i64 t.id, .int .i64 t.wd, .int .i64 t.ht, .int .i64 t.dp, .int .i64 t.tare, .int .i64 t.gram, .int .i64 t.cost]) := (((unhide Ktu0).other Nqtb).other Nqtb)
        have Ztu1 : w.heap.size < ((u0.setCell ⟨(w.heap.size + 1), 0, none⟩ (.int .i64 (vol t.wd t.ht t.dp))).setCell ⟨(w.heap.size + 1), 1, none⟩ (.int .i64 t.gram)).heap.size := by simpa using Ztu0
        clear hHeld
        clear Bu0 Ktu0 Ztu0 Kbu0 Zbu0
        generalize ((u0.setCell ⟨(w.heap.size + 1), 0, none⟩ (.int .i64 (vol t.wd t.ht t.dp))).setCell ⟨(w.heap.size + 1), 1, none⟩ (.int .i64 t.gram)) = u1 at *
        refine hK.out _ _ (fun hn => absurd (by decide) hn) ?_
        clear hK K
        try simp only [Act.put, List.getElem_toArray, List.getElem_cons_zero, List.getElem_cons_succ, List.setIfInBounds_toArray, List.set_cons_zero, List.set_cons_succ]
        refine wpTo_done (by kernel_rfl) ?_ _
        refine NoPanic.normal ?_
        go_wp2_with fail
        go_meet
        case rel => exact ⟨rfl, unhide Kbu1, unhide Bu1⟩
      exact AllTo.nil
    exact AllTo.nil
  case rest =>
    obtain ⟨rfl, hk, hb⟩ := hcut
    have k0 := (hk 0 (by simp)).1
    have k1 := (hk 1 (by simp)).1
    clear hk
    have HB := hide hb
    clear hb
    go_wp2
    exact bodyPost_ret (v := .agg #[.int .i64 (vol t.wd t.ht t.dp), .int .i64 t.gram]) (by simp [results, Tryz.results49, go_sem, k0, k1]) rfl ⟨rfl, unhide HB⟩

theorem Rd.of_blk1 {w : World} {g : Nat} {u : Int} (h : Blk w g [.int .i64 u]) : Rd w (some ⟨g, 0, none⟩) 1 [u] := ⟨rfl, fun i hi => by
  obtain rfl : i = 0 := by omega
  exact ⟨g, 0, rfl, (h 0 (by simp)).1⟩⟩
set_option maxHeartbeats 4000000 in
theorem bulkOf_any (r : ReqV) (h : ReqH) (a : Option Addr) (n c : Nat) (us : List Int) (w : World) (hr : RdReq w r h) (hs : r.small) (hg : ErrT w) (hu : Rd w a n us) (hn : n ≤ 1048600) :
    Calls Tryz.prog 46 #[reqVal r h, .slice a n c] w fun e w' => e = .returned (.agg #[.int .i64 (volOf (itemsR r) us), .int .i64 (gramOf (itemsR r) us)]) ∧ Below w.heap.size w w' := by
  have HR := hide hr
  have HG := hide hg
  have HU := hide hu
  clear hr hg hu
  unfold reqVal
  go_enter Tryz.func46, Tryz.ntmps46
  go_wp2_with fail
  have BW : Hid (Below w.heap.size w ((w.alloc (.cells #[.int .i64 r.way, .int .i64 r.pal.wd, .int .i64 r.pal.dp, .int .i64 r.pal.ht, .int .i64 r.pal.gram, .int .i64 r.classes, .slice h.ap r.pairs.length h.cp, .slice h.at' r.types.length h.ct, .int .i64 r.master, .slice h.ai r.items.length h.ci] 30)).alloc (.cells #[.int .i64 0, .int .i64 0] 70))) := (((Below.refl _ _).alloc (by simp) _).alloc (by simp) _)
  have KaW : Hid (Blk ((w.alloc (.cells #[.int .i64 r.way, .int .i64 r.pal.wd, .int .i64 r.pal.dp, .int .i64 r.pal.ht, .int .i64 r.pal.gram, .int .i64 r.classes, .slice h.ap r.pairs.length h.cp, .slice h.at' r.types.length h.ct, .int .i64 r.master, .slice h.ai r.items.length h.ci] 30)).alloc (.cells #[.int .i64 0, .int .i64 0] 70)) w.heap.size [.int .i64 r.way, .int .i64 r.pal.wd, .int .i64 r.pal.dp, .int .i64 r.pal.ht, .int .i64 r.pal.gram, .int .i64 r.classes, .slice h.ap r.pairs.length h.cp, .slice h.at' r.types.length h.ct, .int .i64 r.master, .slice h.ai r.items.length h.ci]) := ((Blk.allocAt (w := w) [.int .i64 r.way, .int .i64 r.pal.wd, .int .i64 r.pal.dp, .int .i64 r.pal.ht, .int .i64 r.pal.gram, .int .i64 r.classes, .slice h.ap r.pairs.length h.cp, .slice h.at' r.types.length h.ct, .int .i64 r.master, .slice h.ai r.items.length h.ci] (by simp)).allocOld (by simp) _)
  have ZaW : w.heap.size < ((w.alloc (.cells #[.int .i64 r.way, .int .i64 r.pal.wd, .int .i64 r.pal.dp, .int .i64 r.pal.ht, .int .i64 r.pal.gram, .int .i64 r.classes, .slice h.ap r.pairs.length h.cp, .slice h.at' r.types.length h.ct, .int .i64 r.master, .slice h.ai r.items.length h.ci] 30)).alloc (.cells #[.int .i64 0, .int .i64 0] 70)).heap.size := by simp <;> omega
  have Ga : w.heap.size ≤ w.heap.size := by omega
  have KbW : Hid (Blk ((w.alloc (.cells #[.int .i64 r.way, .int .i64 r.pal.wd, .int .i64 r.pal.dp, .int .i64 r.pal.ht, .int .i64 r.pal.gram, .int .i64 r.classes, .slice h.ap r.pairs.length h.cp, .slice h.at' r.types.length h.ct, .int .i64 r.master, .slice h.ai r.items.length h.ci] 30)).alloc (.cells #[.int .i64 0, .int .i64 0] 70)) (w.heap.size + 1) [.int .i64 0, .int .i64 0]) := (Blk.allocAt (w := (w.alloc (.cells #[.int .i64 r.way, .int .i64 r.pal.wd, .int .i64 r.pal.dp, .int .i64 r.pal.ht, .int .i64 r.pal.gram, .int .i64 r.classes, .slice h.ap r.pairs.length h.cp, .slice h.at' r.types.length h.ct, .int .i64 r.master, .slice h.ai r.items.length h.ci] 30))) [.int .i64 0, .int .i64 0] (by simp))
  have ZbW : (w.heap.size + 1) < ((w.alloc (.cells #[.int .i64 r.way, .int .i64 r.pal.wd, .int .i64 r.pal.dp, .int .i64 r.pal.ht, .int .i64 r.pal.gram, .int .i64 r.classes, .slice h.ap r.pairs.length h.cp, .slice h.at' r.types.length h.ct, .int .i64 r.master, .slice h.ai r.items.length h.ci] 30)).alloc (.cells #[.int .i64 0, .int .i64 0] 70)).heap.size := by simp
  have Gb : w.heap.size ≤ (w.heap.size + 1) := by omega
  have Nqab : w.heap.size ≠ (w.heap.size + 1) := by omega
  have Nqba : (w.heap.size + 1) ≠ w.heap.size := by omega
  generalize ((w.alloc (.cells #[.int .i64 r.way, .int .i64 r.pal.wd, .int .i64 r.pal.dp, .int .i64 r.pal.ht, .int .i64 r.pal.gram, .int .i64 r.classes, .slice h.ap r.pairs.length h.cp, .slice h.at' r.types.length h.ct, .int .i64 r.master, .slice h.ai r.items.length h.ci] 30)).alloc (.cells #[.int .i64 0, .int .i64 0] 70)) = W at *
  go_cut [4] (fun v wc => v = .pointer (some ⟨w.heap.size + 1, 0, none⟩) ∧ Blk wc (w.heap.size + 1) [.int .i64 (volOf (itemsR r) us), .int .i64 (gramOf (itemsR r) us)] ∧ Below w.heap.size w wc)
  case first =>
    refine wp_region_noPanic ?_
    have Bu0 : Hid (Below w.heap.size w W.drew) := (unhide BW).drew
    have Kau0 : Hid (Blk W.drew w.heap.size [.int .i64 r.way, .int .i64 r.pal.wd, .int .i64 r.pal.dp, .int .i64 r.pal.ht, .int .i64 r.pal.gram, .int .i64 r.classes, .slice h.ap r.pairs.length h.cp, .slice h.at' r.types.length h.ct, .int .i64 r.master, .slice h.ai r.items.length h.ci]) := unhide KaW
    have Zau0 : w.heap.size < W.drew.heap.size := ZaW
    have Kbu0 : Hid (Blk W.drew (w.heap.size + 1) [.int .i64 0, .int .i64 0]) := unhide KbW
    have Zbu0 : (w.heap.size + 1) < W.drew.heap.size := ZbW
    obtain ⟨S, hSdef⟩ : ∃ S : World → Prop, S = (fun w' => w'.cell? ⟨w.heap.size, 0, none⟩ = some (.int .i64 r.way) ∧ w'.cell? ⟨w.heap.size, 1, none⟩ = some (.int .i64 r.pal.wd) ∧ w'.cell? ⟨w.heap.size, 2, none⟩ = some (.int .i64 r.pal.dp) ∧ w'.cell? ⟨w.heap.size, 3, none⟩ = some (.int .i64 r.pal.ht) ∧ w'.cell? ⟨w.heap.size, 4, none⟩ = some (.int .i64 r.pal.gram) ∧ w'.cell? ⟨w.heap.size, 5, none⟩ = some (.int .i64 r.classes) ∧ w'.cell? ⟨w.heap.size, 6, none⟩ = some (.slice h.ap r.pairs.length h.cp) ∧ w'.cell? ⟨w.heap.size, 7, none⟩ = some (.slice h.at' r.types.length h.ct) ∧ w'.cell? ⟨w.heap.size, 8, none⟩ = some (.int .i64 r.master) ∧ w'.cell? ⟨w.heap.size, 9, none⟩ = some (.slice h.ai r.items.length h.ci)) := ⟨_, rfl⟩
    have hSmk : ∀ x, Blk x w.heap.size [.int .i64 r.way, .int .i64 r.pal.wd, .int .i64 r.pal.dp, .int .i64 r.pal.ht, .int .i64 r.pal.gram, .int .i64 r.classes, .slice h.ap r.pairs.length h.cp, .slice h.at' r.types.length h.ct, .int .i64 r.master, .slice h.ai r.items.length h.ci] → S x := fun x ka => by rw [hSdef]; exact ⟨(ka 0 (by simp)).1, (ka 1 (by simp)).1, (ka 2 (by simp)).1, (ka 3 (by simp)).1, (ka 4 (by simp)).1, (ka 5 (by simp)).1, (ka 6 (by simp)).1, (ka 7 (by simp)).1, (ka 8 (by simp)).1, (ka 9 (by simp)).1⟩
    have hSd : ∀ x, S x → (fun w' => w'.cell? ⟨w.heap.size, 0, none⟩ = some (.int .i64 r.way) ∧ w'.cell? ⟨w.heap.size, 1, none⟩ = some (.int .i64 r.pal.wd) ∧ w'.cell? ⟨w.heap.size, 2, none⟩ = some (.int .i64 r.pal.dp) ∧ w'.cell? ⟨w.heap.size, 3, none⟩ = some (.int .i64 r.pal.ht) ∧ w'.cell? ⟨w.heap.size, 4, none⟩ = some (.int .i64 r.pal.gram) ∧ w'.cell? ⟨w.heap.size, 5, none⟩ = some (.int .i64 r.classes) ∧ w'.cell? ⟨w.heap.size, 6, none⟩ = some (.slice h.ap r.pairs.length h.cp) ∧ w'.cell? ⟨w.heap.size, 7, none⟩ = some (.slice h.at' r.types.length h.ct) ∧ w'.cell? ⟨w.heap.size, 8, none⟩ = some (.int .i64 r.master) ∧ w'.cell? ⟨w.heap.size, 9, none⟩ = some (.slice h.ai r.items.length h.ci)) x := fun x h => by rw [hSdef] at h; exact h
    clear hSdef
    have hHeld : S W.drew := hSmk W.drew (unhide Kau0)
    refine wp_region_to (S := S) (T := [7]) (by kernel_rfl) hHeld (fun _ => ?_)
    generalize W.drew = u0 at *
    refine wpTo_take (i := 0) (v := ?_) rfl (by kernel_rfl) (by kernel_rfl) (by kernel_rfl) (by kernel_rfl) (by kernel_rfl) (fun _ _ _ h => h) (Or.inl ⟨by rfl, ?_⟩) (by assumption) ?_
    rotate_left
    · intro w hSw
      have hSw := hSd _ hSw
      (try dsimp only at hSw)
      go_simp <;> with_reducible rfl
    try simp only [Act.put, List.getElem_toArray, List.getElem_cons_zero, List.getElem_cons_succ, List.setIfInBounds_toArray, List.set_cons_zero, List.set_cons_succ]
    refine wpTo_take (i := 1) (v := ?_) rfl (by kernel_rfl) (by kernel_rfl) (by kernel_rfl) (by kernel_rfl) (by kernel_rfl) (fun _ _ _ h => h) (Or.inl ⟨by rfl, ?_⟩) (by assumption) ?_
    rotate_left
    · intro w hSw
      have hSw := hSd _ hSw
      (try dsimp only at hSw)
      go_simp <;> with_reducible rfl
    try simp only [Act.put, List.getElem_toArray, List.getElem_cons_zero, List.getElem_cons_succ, List.setIfInBounds_toArray, List.set_cons_zero, List.set_cons_succ]
    refine wpTo_take (i := 3) (v := ?_) rfl (by kernel_rfl) (by kernel_rfl) (by kernel_rfl) (by kernel_rfl) (by kernel_rfl) (fun _ _ _ h => h) (Or.inl ⟨by rfl, ?_⟩) (by assumption) ?_
    rotate_left
    · intro w hSw
      have hSw := hSd _ hSw
      (try dsimp only at hSw)
      go_simp <;> with_reducible rfl
    try simp only [Act.put, List.getElem_toArray, List.getElem_cons_zero, List.getElem_cons_succ, List.setIfInBounds_toArray, List.set_cons_zero, List.set_cons_succ]
    refine wpTo_take (i := 4) (v := ?_) rfl (by kernel_rfl) (by kernel_rfl) (by kernel_rfl) (by kernel_rfl) (by kernel_rfl) (fun _ _ _ h => h) (Or.inl ⟨by rfl, ?_⟩) (by assumption) ?_
    rotate_left
    · intro w hSw
      have hSw := hSd _ hSw
      (try dsimp only at hSw)
      go_simp <;> with_reducible rfl
    try simp only [Act.put, List.getElem_toArray, List.getElem_cons_zero, List.getElem_cons_succ, List.setIfInBounds_toArray, List.set_cons_zero, List.set_cons_succ]
    refine wpTo_ready (rs := [2]) (by kernel_rfl) (by simp) ?_
    refine AllTo.cons (o := _) rfl (fun K hK => ?_) ?_
    · (try simp only [List.getElem_toArray, List.getElem_cons_zero, List.getElem_cons_succ])
      go_simp
      refine (volumeOf_any r h a n c us u0 ((unhide HR).mono (unhide Bu0)) hs ((unhide HG).later (unhide Bu0)) ((unhide HU).mono (unhide Bu0)) hn).mono ?_
      rintro e u1 ⟨rfl, hb⟩
      have Bu1 := hide ((unhide Bu0).trans (hb.mono (unhide Bu0).size))
      have Kau1 := hide (Blk.below hb Zau0 (unhide Kau0))
      have Zau1 : w.heap.size < u1.heap.size := Nat.lt_of_lt_of_le Zau0 hb.size
      have Kbu1 := hide (Blk.below hb Zbu0 (unhide Kbu0))
      have Zbu1 : (w.heap.size + 1) < u1.heap.size := Nat.lt_of_lt_of_le Zbu0 hb.size
      clear hb
      clear Bu0 Kau0 Zau0 Kbu0 Zbu0
      clear hHeld
      go_wp2_with fail
      have hHeld := hSmk u1 (unhide Kau1)
      refine hK.out _ _ (fun _ => hHeld) ?_
      clear hK K
      try simp only [Act.put, List.getElem_toArray, List.getElem_cons_zero, List.getElem_cons_succ, List.setIfInBounds_toArray, List.set_cons_zero, List.set_cons_succ]
      refine wpTo_ready (rs := [5]) (by kernel_rfl) (by simp) ?_
      refine AllTo.cons (o := _) rfl (fun K hK => ?_) ?_
      · (try simp only [List.getElem_toArray, List.getElem_cons_zero, List.getElem_cons_succ])
        go_simp
        refine (gramOf_any r h a n c us u1 ((unhide HR).mono (unhide Bu1)) hs ((unhide HG).later (unhide Bu1)) ((unhide HU).mono (unhide Bu1)) hn).mono ?_
        rintro e u2 ⟨rfl, hb⟩
        have Bu2 := hide ((unhide Bu1).trans (hb.mono (unhide Bu1).size))
        have Kau2 := hide (Blk.below hb Zau1 (unhide Kau1))
        have Zau2 : w.heap.size < u2.heap.size := Nat.lt_of_lt_of_le Zau1 hb.size
        have Kbu2 := hide (Blk.below hb Zbu1 (unhide Kbu1))
        have Zbu2 : (w.heap.size + 1) < u2.heap.size := Nat.lt_of_lt_of_le Zbu1 hb.size
        clear hb
        clear Bu1 Kau1 Zau1 Kbu1 Zbu1
        clear hHeld
        go_wp2_with fail
        have hHeld := hSmk u2 (unhide Kau2)
        refine hK.out _ _ (fun _ => hHeld) ?_
        clear hK K
        try simp only [Act.put, List.getElem_toArray, List.getElem_cons_zero, List.getElem_cons_succ, List.setIfInBounds_toArray, List.set_cons_zero, List.set_cons_succ]
        refine wpTo_take (i := 6) (v := ?_) rfl (by kernel_rfl) (by kernel_rfl) (by kernel_rfl) (by kernel_rfl) (by kernel_rfl) (fun _ _ _ h => h) (Or.inl ⟨by rfl, ?_⟩) (by assumption) ?_
        rotate_left
        · intro w hSw
          have hSw := hSd _ hSw
          (try dsimp only at hSw)
          go_simp <;> with_reducible rfl
        try simp only [Act.put, List.getElem_toArray, List.getElem_cons_zero, List.getElem_cons_succ, List.setIfInBounds_toArray, List.set_cons_zero, List.set_cons_succ]
        refine wpTo_ready (rs := [7]) (by kernel_rfl) (by simp) ?_
        refine AllTo.cons (o := _) rfl (fun K hK => ?_) ?_
        · (try simp only [List.getElem_toArray, List.getElem_cons_zero, List.getElem_cons_succ])
          have p0 := ((unhide Kbu2) 0 (by simp)).1
          have q0 := ((unhide Kbu2) 0 (by simp)).2
          have p1 := ((unhide Kbu2) 1 (by simp)).1
          have q1 := ((unhide Kbu2) 1 (by simp)).2
          go_simp
          clear p0 q0 p1 q1
          have Bu3 : Hid (Below w.heap.size w ((u2.setCell ⟨(w.heap.size + 1), 0, none⟩ (.int .i64 (volOf (itemsR r) us))).setCell ⟨(w.heap.size + 1), 1, none⟩ (.int .i64 (gramOf (itemsR r) us)))) := (((unhide Bu2).setCell Gb _).setCell Gb _)
          have Kbu3 : Hid (Blk ((u2.setCell ⟨(w.heap.size + 1), 0, none⟩ (.int .i64 (volOf (itemsR r) us))).setCell ⟨(w.heap.size + 1), 1, none⟩ (.int .i64 (gramOf (itemsR r) us))) (w.heap.size + 1) [.int .i64 (volOf (itemsR r) us), .int .i64 (gramOf (itemsR r) us)]) := Blk.fill2 (unhide Kbu2)
          have Zbu3 : (w.heap.size + 1) < ((u2.setCell ⟨(w.heap.size + 1), 0, none⟩ (.int .i64 (volOf (itemsR r) us))).setCell ⟨(w.heap.size + 1), 1, none⟩ (.int .i64 (gramOf (itemsR r) us))).heap.size := by simpa using Zbu2
          have Kau3 : Hid (Blk ((u2.setCell ⟨(w.heap.size + 1), 0, none⟩ (.int .i64 (volOf (itemsR r) us))).setCell ⟨(w.heap.size + 1), 1, none⟩ (.int .i64 (gramOf (itemsR r) us))) w.heap.size [.int .i64 r.way, .int .i64 r.pal.wd, .int .i64 r.pal.dp, .int .i64 r.pal.ht, .int .i64 r.pal.gram, .int .i64 r.classes, .slice h.ap r.pairs.length h.cp, .slice h.at' r.types.length h.ct, .int .i64 r.master, .slice h.ai r.items.length h.ci]) := (((unhide Kau2).other Nqab).other Nqab)
          have Zau3 : w.heap.size < ((u2.setCell ⟨(w.heap.size + 1), 0, none⟩ (.int .i64 (volOf (itemsR r) us))).setCell ⟨(w.heap.size + 1), 1, none⟩ (.int .i64 (gramOf (itemsR r) us))).heap.size := by simpa using Zau2
          clear hHeld
          clear Bu2 Kau2 Zau2 Kbu2 Zbu2
          generalize ((u2.setCell ⟨(w.heap.size + 1), 0, none⟩ (.int .i64 (volOf (itemsR r) us))).setCell ⟨(w.heap.size + 1), 1, none⟩ (.int .i64 (gramOf (itemsR r) us))) = u3 at *
          refine hK.out _ _ (fun hn => absurd (by decide) hn) ?_
          clear hK K
          try simp only [Act.put, List.getElem_toArray, List.getElem_cons_zero, List.getElem_cons_succ, List.setIfInBounds_toArray, List.set_cons_zero, List.set_cons_succ]
          refine wpTo_done (by kernel_rfl) ?_ _
          refine NoPanic.normal ?_
          go_wp2_with fail
          go_meet
          case rel => exact ⟨rfl, unhide Kbu3, unhide Bu3⟩
        exact AllTo.nil
      exact AllTo.nil
    exact AllTo.nil
  case rest =>
    obtain ⟨rfl, hk, hb⟩ := hcut
    have k0 := (hk 0 (by simp)).1
    have k1 := (hk 1 (by simp)).1
    clear hk
    have HB := hide hb
    clear hb
    go_wp2
    exact bodyPost_ret (v := .agg #[.int .i64 (volOf (itemsR r) us), .int .i64 (gramOf (itemsR r) us)]) (by simp [results, Tryz.results46, go_sem, k0, k1]) rfl ⟨rfl, unhide HB⟩

set_option maxRecDepth 100000 in
set_option maxHeartbeats 4000000 in
theorem room_any (r : ReqV) (h : ReqH) (a : Option Addr) (n c : Nat) (us : List Int) (u : Int) (w : World) (hr : RdReq w r h) (hs : r.small) (hg : ErrT w) (hu : Rd w a n us) (hn : n ≤ 1048600) :
    Calls Tryz.prog 16 #[reqVal r h, .slice a n c, .int .i64 u] w fun e w' => e = .returned (.bool (roomR r us u)) ∧ Below w.heap.size w w' := by
  have htl : r.types.length ≤ 1048600 := by unfold ReqV.small at hs; omega
  have HV := hide (volOf_bd (itemsR r) us 1048600 (by rw [hu.1]; exact hn))
  have HM := hide (gramOf_bd (itemsR r) (itemsR_good r).gram us 1048600 (by rw [hu.1]; exact hn))
  have HV1 := hide (volOf_bd (itemsR r) [u] 1 (Nat.le_refl _))
  have HM1 := hide (gramOf_bd (itemsR r) (itemsR_good r).gram [u] 1 (Nat.le_refl _))
  have HR := hide hr
  have HG := hide hg
  have HU := hide hu
  clear hr hg hu
  unfold reqVal
  go_enter Tryz.func16, Tryz.ntmps16
  go_wp2_with fail
  have BW : Hid (Below w.heap.size w (w.alloc (.cells #[.int .i64 r.way, .int .i64 r.pal.wd, .int .i64 r.pal.dp, .int .i64 r.pal.ht, .int .i64 r.pal.gram, .int .i64 r.classes, .slice h.ap r.pairs.length h.cp, .slice h.at' r.types.length h.ct, .int .i64 r.master, .slice h.ai r.items.length h.ci] 30))) := ((Below.refl _ _).alloc (by simp) _)
  have KaW : Hid (Blk (w.alloc (.cells #[.int .i64 r.way, .int .i64 r.pal.wd, .int .i64 r.pal.dp, .int .i64 r.pal.ht, .int .i64 r.pal.gram, .int .i64 r.classes, .slice h.ap r.pairs.length h.cp, .slice h.at' r.types.length h.ct, .int .i64 r.master, .slice h.ai r.items.length h.ci] 30)) w.heap.size [.int .i64 r.way, .int .i64 r.pal.wd, .int .i64 r.pal.dp, .int .i64 r.pal.ht, .int .i64 r.pal.gram, .int .i64 r.classes, .slice h.ap r.pairs.length h.cp, .slice h.at' r.types.length h.ct, .int .i64 r.master, .slice h.ai r.items.length h.ci]) := (Blk.allocAt (w := w) [.int .i64 r.way, .int .i64 r.pal.wd, .int .i64 r.pal.dp, .int .i64 r.pal.ht, .int .i64 r.pal.gram, .int .i64 r.classes, .slice h.ap r.pairs.length h.cp, .slice h.at' r.types.length h.ct, .int .i64 r.master, .slice h.ai r.items.length h.ci] (by simp))
  have ZaW : w.heap.size < (w.alloc (.cells #[.int .i64 r.way, .int .i64 r.pal.wd, .int .i64 r.pal.dp, .int .i64 r.pal.ht, .int .i64 r.pal.gram, .int .i64 r.classes, .slice h.ap r.pairs.length h.cp, .slice h.at' r.types.length h.ct, .int .i64 r.master, .slice h.ai r.items.length h.ci] 30)).heap.size := by simp
  have Ga : w.heap.size ≤ w.heap.size := by omega
  generalize (w.alloc (.cells #[.int .i64 r.way, .int .i64 r.pal.wd, .int .i64 r.pal.dp, .int .i64 r.pal.ht, .int .i64 r.pal.gram, .int .i64 r.classes, .slice h.ap r.pairs.length h.cp, .slice h.at' r.types.length h.ct, .int .i64 r.master, .slice h.ai r.items.length h.ci] 30)) = W at *
  refine (class_any r h _ ((unhide HR).mono (unhide BW)) hs ((unhide HG).later (unhide BW))).mono ?_
  rintro e v1 ⟨rfl, hb⟩
  have Bv1 := hide ((unhide BW).trans (hb.mono (unhide BW).size))
  have Kav1 := hide (Blk.below hb ZaW (unhide KaW))
  have Zav1 : w.heap.size < v1.heap.size := Nat.lt_of_lt_of_le ZaW hb.size
  clear hb
  clear BW KaW ZaW
  by_cases hz : classI r = 0
  case neg =>
    have hne : (classI r != 0) = true := by simp [hz]
    have HE : Hid (roomR r us u = false) := by simp [Hid, roomR, hz]
    clear hz
    go_wp2
    go_ret
    exact ⟨ret_boolF (unhide HE).symm, unhide Bv1⟩
  have HE : Hid (roomR r us u = roomB (itemsR r) (masterV r) us u) := by simp [Hid, roomR, hz]
  rw [hz]
  clear hz
  have ca0 : v1.cell? ⟨w.heap.size, 0, none⟩ = some (.int .i64 r.way) := ((unhide Kav1) 0 (by simp)).1
  have ca1 : v1.cell? ⟨w.heap.size, 1, none⟩ = some (.int .i64 r.pal.wd) := ((unhide Kav1) 1 (by simp)).1
  have ca2 : v1.cell? ⟨w.heap.size, 2, none⟩ = some (.int .i64 r.pal.dp) := ((unhide Kav1) 2 (by simp)).1
  have ca3 : v1.cell? ⟨w.heap.size, 3, none⟩ = some (.int .i64 r.pal.ht) := ((unhide Kav1) 3 (by simp)).1
  have ca4 : v1.cell? ⟨w.heap.size, 4, none⟩ = some (.int .i64 r.pal.gram) := ((unhide Kav1) 4 (by simp)).1
  have ca5 : v1.cell? ⟨w.heap.size, 5, none⟩ = some (.int .i64 r.classes) := ((unhide Kav1) 5 (by simp)).1
  have ca6 : v1.cell? ⟨w.heap.size, 6, none⟩ = some (.slice h.ap r.pairs.length h.cp) := ((unhide Kav1) 6 (by simp)).1
  have ca7 : v1.cell? ⟨w.heap.size, 7, none⟩ = some (.slice h.at' r.types.length h.ct) := ((unhide Kav1) 7 (by simp)).1
  have ca8 : v1.cell? ⟨w.heap.size, 8, none⟩ = some (.int .i64 r.master) := ((unhide Kav1) 8 (by simp)).1
  have ca9 : v1.cell? ⟨w.heap.size, 9, none⟩ = some (.slice h.ai r.items.length h.ci) := ((unhide Kav1) 9 (by simp)).1
  go_wp2_with fail
  refine (masterOf_any r h _ ((unhide HR).mono (unhide Bv1)) htl).mono ?_
  rintro e v2 ⟨rfl, hb⟩
  have Bv2 := hide ((unhide Bv1).trans (hb.mono (unhide Bv1).size))
  have Kav2 := hide (Blk.below hb Zav1 (unhide Kav1))
  have Zav2 : w.heap.size < v2.heap.size := Nat.lt_of_lt_of_le Zav1 hb.size
  clear hb
  clear Bv1 Kav1 Zav1
  clear ca0 ca1 ca2 ca3 ca4 ca5 ca6 ca7 ca8 ca9
  have ca0 : v2.cell? ⟨w.heap.size, 0, none⟩ = some (.int .i64 r.way) := ((unhide Kav2) 0 (by simp)).1
  have ca1 : v2.cell? ⟨w.heap.size, 1, none⟩ = some (.int .i64 r.pal.wd) := ((unhide Kav2) 1 (by simp)).1
  have ca2 : v2.cell? ⟨w.heap.size, 2, none⟩ = some (.int .i64 r.pal.dp) := ((unhide Kav2) 2 (by simp)).1
  have ca3 : v2.cell? ⟨w.heap.size, 3, none⟩ = some (.int .i64 r.pal.ht) := ((unhide Kav2) 3 (by simp)).1
  have ca4 : v2.cell? ⟨w.heap.size, 4, none⟩ = some (.int .i64 r.pal.gram) := ((unhide Kav2) 4 (by simp)).1
  have ca5 : v2.cell? ⟨w.heap.size, 5, none⟩ = some (.int .i64 r.classes) := ((unhide Kav2) 5 (by simp)).1
  have ca6 : v2.cell? ⟨w.heap.size, 6, none⟩ = some (.slice h.ap r.pairs.length h.cp) := ((unhide Kav2) 6 (by simp)).1
  have ca7 : v2.cell? ⟨w.heap.size, 7, none⟩ = some (.slice h.at' r.types.length h.ct) := ((unhide Kav2) 7 (by simp)).1
  have ca8 : v2.cell? ⟨w.heap.size, 8, none⟩ = some (.int .i64 r.master) := ((unhide Kav2) 8 (by simp)).1
  have ca9 : v2.cell? ⟨w.heap.size, 9, none⟩ = some (.slice h.ai r.items.length h.ci) := ((unhide Kav2) 9 (by simp)).1
  go_wp2_with fail
  clear ca0 ca1 ca2 ca3 ca4 ca5 ca6 ca7 ca8 ca9
  have Bv3 : Hid (Below w.heap.size w (v2.alloc (.cells #[.int .i64 (masterV r).id, .int .i64 (masterV r).wd, .int .i64 (masterV r).ht, .int .i64 (masterV r).dp, .int .i64 (masterV r).tare, .int .i64 (masterV r).gram, .int .i64 (masterV r).cost] 41))) := (unhide Bv2).alloc (unhide Bv2).size _
  have Ktv3 : Hid (Blk (v2.alloc (.cells #[.int .i64 (masterV r).id, .int .i64 (masterV r).wd, .int .i64 (masterV r).ht, .int .i64 (masterV r).dp, .int .i64 (masterV r).tare, .int .i64 (masterV r).gram, .int .i64 (masterV r).cost] 41)) v2.heap.size [.int .i64 (masterV r).id, .int .i64 (masterV r).wd, .int .i64 (masterV r).ht, .int .i64 (masterV r).dp, .int .i64 (masterV r).tare, .int .i64 (masterV r).gram, .int .i64 (masterV r).cost]) := Blk.allocAt [.int .i64 (masterV r).id, .int .i64 (masterV r).wd, .int .i64 (masterV r).ht, .int .i64 (masterV r).dp, .int .i64 (masterV r).tare, .int .i64 (masterV r).gram, .int .i64 (masterV r).cost] rfl
  have Ztv3 : v2.heap.size < (v2.alloc (.cells #[.int .i64 (masterV r).id, .int .i64 (masterV r).wd, .int .i64 (masterV r).ht, .int .i64 (masterV r).dp, .int .i64 (masterV r).tare, .int .i64 (masterV r).gram, .int .i64 (masterV r).cost] 41)).heap.size := by simp
  have Gt : w.heap.size ≤ v2.heap.size := (unhide Bv2).size
  have Kav3 : Hid (Blk (v2.alloc (.cells #[.int .i64 (masterV r).id, .int .i64 (masterV r).wd, .int .i64 (masterV r).ht, .int .i64 (masterV r).dp, .int .i64 (masterV r).tare, .int .i64 (masterV r).gram, .int .i64 (masterV r).cost] 41)) w.heap.size [.int .i64 r.way, .int .i64 r.pal.wd, .int .i64 r.pal.dp, .int .i64 r.pal.ht, .int .i64 r.pal.gram, .int .i64 r.classes, .slice h.ap r.pairs.length h.cp, .slice h.at' r.types.length h.ct, .int .i64 r.master, .slice h.ai r.items.length h.ci]) := (unhide Kav2).allocOld Zav2 _
  have Zav3 : w.heap.size < (v2.alloc (.cells #[.int .i64 (masterV r).id, .int .i64 (masterV r).wd, .int .i64 (masterV r).ht, .int .i64 (masterV r).dp, .int .i64 (masterV r).tare, .int .i64 (masterV r).gram, .int .i64 (masterV r).cost] 41)).heap.size := by simp <;> omega
  have Nqat : w.heap.size ≠ v2.heap.size := Nat.ne_of_lt Zav2
  have Nqta : v2.heap.size ≠ w.heap.size := Ne.symm Nqat
  clear Bv2 Kav2 Zav2
  generalize (v2.alloc (.cells #[.int .i64 (masterV r).id, .int .i64 (masterV r).wd, .int .i64 (masterV r).ht, .int .i64 (masterV r).dp, .int .i64 (masterV r).tare, .int .i64 (masterV r).gram, .int .i64 (masterV r).cost] 41)) = v3 at *
  go_cut [6] (fun v wc => v = .bool (roomB (itemsR r) (masterV r) us u) ∧ Below w.heap.size w wc)
  case first =>
    refine wp_region_noPanic ?_
    have Bu0 : Hid (Below w.heap.size w v3.drew) := (unhide Bv3).drew
    have Kau0 : Hid (Blk v3.drew w.heap.size [.int .i64 r.way, .int .i64 r.pal.wd, .int .i64 r.pal.dp, .int .i64 r.pal.ht, .int .i64 r.pal.gram, .int .i64 r.classes, .slice h.ap r.pairs.length h.cp, .slice h.at' r.types.length h.ct, .int .i64 r.master, .slice h.ai r.items.length h.ci]) := unhide Kav3
    have Zau0 : w.heap.size < v3.drew.heap.size := Zav3
    have Ktu0 : Hid (Blk v3.drew v2.heap.size [.int .i64 (masterV r).id, .int .i64 (masterV r).wd, .int .i64 (masterV r).ht, .int .i64 (masterV r).dp, .int .i64 (masterV r).tare, .int .i64 (masterV r).gram, .int .i64 (masterV r).cost]) := unhide Ktv3
    have Ztu0 : v2.heap.size < v3.drew.heap.size := Ztv3
    obtain ⟨S, hSdef⟩ : ∃ S : World → Prop, S = (fun w' => w'.cell? ⟨w.heap.size, 0, none⟩ = some (.int .i64 r.way) ∧ w'.cell? ⟨w.heap.size, 1, none⟩ = some (.int .i64 r.pal.wd) ∧ w'.cell? ⟨w.heap.size, 2, none⟩ = some (.int .i64 r.pal.dp) ∧ w'.cell? ⟨w.heap.size, 3, none⟩ = some (.int .i64 r.pal.ht) ∧ w'.cell? ⟨w.heap.size, 4, none⟩ = some (.int .i64 r.pal.gram) ∧ w'.cell? ⟨w.heap.size, 5, none⟩ = some (.int .i64 r.classes) ∧ w'.cell? ⟨w.heap.size, 6, none⟩ = some (.slice h.ap r.pairs.length h.cp) ∧ w'.cell? ⟨w.heap.size, 7, none⟩ = some (.slice h.at' r.types.length h.ct) ∧ w'.cell? ⟨w.heap.size, 8, none⟩ = some (.int .i64 r.master) ∧ w'.cell? ⟨w.heap.size, 9, none⟩ = some (.slice h.ai r.items.length h.ci) ∧ w'.cell? ⟨v2.heap.size, 0, none⟩ = some (.int .i64 (masterV r).id) ∧ w'.cell? ⟨v2.heap.size, 1, none⟩ = some (.int .i64 (masterV r).wd) ∧ w'.cell? ⟨v2.heap.size, 2, none⟩ = some (.int .i64 (masterV r).ht) ∧ w'.cell? ⟨v2.heap.size, 3, none⟩ = some (.int .i64 (masterV r).dp) ∧ w'.cell? ⟨v2.heap.size, 4, none⟩ = some (.int .i64 (masterV r).tare) ∧ w'.cell? ⟨v2.heap.size, 5, none⟩ = some (.int .i64 (masterV r).gram) ∧ w'.cell? ⟨v2.heap.size, 6, none⟩ = some (.int .i64 (masterV r).cost)) := ⟨_, rfl⟩
    have hSmk : ∀ x, Blk x w.heap.size [.int .i64 r.way, .int .i64 r.pal.wd, .int .i64 r.pal.dp, .int .i64 r.pal.ht, .int .i64 r.pal.gram, .int .i64 r.classes, .slice h.ap r.pairs.length h.cp, .slice h.at' r.types.length h.ct, .int .i64 r.master, .slice h.ai r.items.length h.ci] → Blk x v2.heap.size [.int .i64 (masterV r).id, .int .i64 (masterV r).wd, .int .i64 (masterV r).ht, .int .i64 (masterV r).dp, .int .i64 (masterV r).tare, .int .i64 (masterV r).gram, .int .i64 (masterV r).cost] → S x := fun x ka kt => by rw [hSdef]; exact ⟨(ka 0 (by simp)).1, (ka 1 (by simp)).1, (ka 2 (by simp)).1, (ka 3 (by simp)).1, (ka 4 (by simp)).1, (ka 5 (by simp)).1, (ka 6 (by simp)).1, (ka 7 (by simp)).1, (ka 8 (by simp)).1, (ka 9 (by simp)).1, (kt 0 (by simp)).1, (kt 1 (by simp)).1, (kt 2 (by simp)).1, (kt 3 (by simp)).1, (kt 4 (by simp)).1, (kt 5 (by simp)).1, (kt 6 (by simp)).1⟩
    have hSd : ∀ x, S x → (fun w' => w'.cell? ⟨w.heap.size, 0, none⟩ = some (.int .i64 r.way) ∧ w'.cell? ⟨w.heap.size, 1, none⟩ = some (.int .i64 r.pal.wd) ∧ w'.cell? ⟨w.heap.size, 2, none⟩ = some (.int .i64 r.pal.dp) ∧ w'.cell? ⟨w.heap.size, 3, none⟩ = some (.int .i64 r.pal.ht) ∧ w'.cell? ⟨w.heap.size, 4, none⟩ = some (.int .i64 r.pal.gram) ∧ w'.cell? ⟨w.heap.size, 5, none⟩ = some (.int .i64 r.classes) ∧ w'.cell? ⟨w.heap.size, 6, none⟩ = some (.slice h.ap r.pairs.length h.cp) ∧ w'.cell? ⟨w.heap.size, 7, none⟩ = some (.slice h.at' r.types.length h.ct) ∧ w'.cell? ⟨w.heap.size, 8, none⟩ = some (.int .i64 r.master) ∧ w'.cell? ⟨w.heap.size, 9, none⟩ = some (.slice h.ai r.items.length h.ci) ∧ w'.cell? ⟨v2.heap.size, 0, none⟩ = some (.int .i64 (masterV r).id) ∧ w'.cell? ⟨v2.heap.size, 1, none⟩ = some (.int .i64 (masterV r).wd) ∧ w'.cell? ⟨v2.heap.size, 2, none⟩ = some (.int .i64 (masterV r).ht) ∧ w'.cell? ⟨v2.heap.size, 3, none⟩ = some (.int .i64 (masterV r).dp) ∧ w'.cell? ⟨v2.heap.size, 4, none⟩ = some (.int .i64 (masterV r).tare) ∧ w'.cell? ⟨v2.heap.size, 5, none⟩ = some (.int .i64 (masterV r).gram) ∧ w'.cell? ⟨v2.heap.size, 6, none⟩ = some (.int .i64 (masterV r).cost)) x := fun x h => by rw [hSdef] at h; exact h
    clear hSdef
    have hHeld : S v3.drew := hSmk v3.drew (unhide Kau0) (unhide Ktu0)
    refine wp_region_to (S := S) (T := []) (by kernel_rfl) hHeld (fun _ => ?_)
    generalize v3.drew = u0 at *
    refine wpTo_take (i := 0) (v := ?_) rfl (by kernel_rfl) (by kernel_rfl) (by kernel_rfl) (by kernel_rfl) (by kernel_rfl) (fun _ _ _ h => h) (Or.inl ⟨by rfl, ?_⟩) (by assumption) ?_
    rotate_left
    · intro w hSw
      have hSw := hSd _ hSw
      (try dsimp only at hSw)
      go_simp <;> with_reducible rfl
    try simp only [Act.put, List.getElem_toArray, List.getElem_cons_zero, List.getElem_cons_succ, List.setIfInBounds_toArray, List.set_cons_zero, List.set_cons_succ]
    refine wpTo_take (i := 1) (v := ?_) rfl (by kernel_rfl) (by kernel_rfl) (by kernel_rfl) (by kernel_rfl) (by kernel_rfl) (fun _ _ _ h => h) (Or.inl ⟨by rfl, ?_⟩) (by assumption) ?_
    rotate_left
    · intro w hSw
      have hSw := hSd _ hSw
      (try dsimp only at hSw)
      go_simp <;> with_reducible rfl
    try simp only [Act.put, List.getElem_toArray, List.getElem_cons_zero, List.getElem_cons_succ, List.setIfInBounds_toArray, List.set_cons_zero, List.set_cons_succ]
    refine wpTo_take (i := 3) (v := ?_) rfl (by kernel_rfl) (by kernel_rfl) (by kernel_rfl) (by kernel_rfl) (by kernel_rfl) (fun _ _ _ h => h) (Or.inl ⟨by rfl, ?_⟩) (by assumption) ?_
    rotate_left
    · intro w hSw
      have hSw := hSd _ hSw
      (try dsimp only at hSw)
      go_simp <;> with_reducible rfl
    try simp only [Act.put, List.getElem_toArray, List.getElem_cons_zero, List.getElem_cons_succ, List.setIfInBounds_toArray, List.set_cons_zero, List.set_cons_succ]
    refine wpTo_take (i := 4) (v := ?_) rfl (by kernel_rfl) (by kernel_rfl) (by kernel_rfl) (by kernel_rfl) (by kernel_rfl) (fun _ _ _ h => h) (Or.inl ⟨by rfl, ?_⟩) (by assumption) ?_
    rotate_left
    · intro w hSw
      have hSw := hSd _ hSw
      (try dsimp only at hSw)
      go_simp <;> with_reducible rfl
    try simp only [Act.put, List.getElem_toArray, List.getElem_cons_zero, List.getElem_cons_succ, List.setIfInBounds_toArray, List.set_cons_zero, List.set_cons_succ]
    refine wpTo_take (i := 8) (v := ?_) rfl (by kernel_rfl) (by kernel_rfl) (by kernel_rfl) (by kernel_rfl) (by kernel_rfl) (fun _ _ _ h => h) (Or.inl ⟨by rfl, ?_⟩) (by assumption) ?_
    rotate_left
    · intro w hSw
      have hSw := hSd _ hSw
      (try dsimp only at hSw)
      go_simp <;> with_reducible rfl
    try simp only [Act.put, List.getElem_toArray, List.getElem_cons_zero, List.getElem_cons_succ, List.setIfInBounds_toArray, List.set_cons_zero, List.set_cons_succ]
    refine wpTo_ready (rs := [2, 5]) (by kernel_rfl) (by simp) ?_
    refine AllTo.cons (o := _) rfl (fun K hK => ?_) ?_
    · (try simp only [List.getElem_toArray, List.getElem_cons_zero, List.getElem_cons_succ])
      go_simp
      refine (bulkOf_any r h a n c us u0 ((unhide HR).mono (unhide Bu0)) hs ((unhide HG).later (unhide Bu0)) ((unhide HU).mono (unhide Bu0)) hn).mono ?_
      rintro e u4 ⟨rfl, hb⟩
      have Bu4 := hide ((unhide Bu0).trans (hb.mono (unhide Bu0).size))
      have Kau4 := hide (Blk.below hb Zau0 (unhide Kau0))
      have Zau4 : w.heap.size < u4.heap.size := Nat.lt_of_lt_of_le Zau0 hb.size
      have Ktu4 := hide (Blk.below hb Ztu0 (unhide Ktu0))
      have Ztu4 : v2.heap.size < u4.heap.size := Nat.lt_of_lt_of_le Ztu0 hb.size
      clear hb
      clear Bu0 Kau0 Zau0 Ktu0 Ztu0
      clear hHeld
      go_wp2_with fail
      have hHeld := hSmk u4 (unhide Kau4) (unhide Ktu4)
      refine hK.out _ _ (fun _ => hHeld) ?_
      clear hK K
      try simp only [Act.put, List.getElem_toArray, List.getElem_cons_zero, List.getElem_cons_succ, List.setIfInBounds_toArray, List.set_cons_zero, List.set_cons_succ]
      refine wpTo_ready (rs := [5]) (by kernel_rfl) (by simp) ?_
      refine AllTo.cons (o := _) rfl (fun K hK => ?_) ?_
      · (try simp only [List.getElem_toArray, List.getElem_cons_zero, List.getElem_cons_succ])
        have Bu5 := hide ((unhide Bu4).alloc (unhide Bu4).size (.cells #[.int .i64 u] 3))
        have Kuu5 : Hid (Blk (u4.alloc (.cells #[.int .i64 u] 3)) u4.heap.size [.int .i64 u]) := Blk.allocAt [.int .i64 u] rfl
        have Zuu5 := lt_alloc_new u4 (.cells #[.int .i64 u] 3)
        have Gu : w.heap.size ≤ u4.heap.size := (unhide Bu4).size
        have Kau5 := hide ((unhide Kau4).allocOld Zau4 (.cells #[.int .i64 u] 3))
        have Zau5 := lt_alloc Zau4 (.cells #[.int .i64 u] 3)
        have Nqau : w.heap.size ≠ u4.heap.size := Nat.ne_of_lt Zau4
        have Nqua := Ne.symm Nqau
        have Ktu5 := hide ((unhide Ktu4).allocOld Ztu4 (.cells #[.int .i64 u] 3))
        have Ztu5 := lt_alloc Ztu4 (.cells #[.int .i64 u] 3)
        have Nqtu : v2.heap.size ≠ u4.heap.size := Nat.ne_of_lt Ztu4
        have Nqut := Ne.symm Nqtu
        go_simp
        clear hHeld
        clear Bu4 Kau4 Zau4 Ktu4 Ztu4
        generalize (u4.alloc (.cells #[.int .i64 u] 3)) = u5 at *
        have hHeld := hSmk u5 (unhide Kau5) (unhide Ktu5)
        refine hK.out _ _ (fun _ => hHeld) ?_
        clear hK K
        try simp only [Act.put, List.getElem_toArray, List.getElem_cons_zero, List.getElem_cons_succ, List.setIfInBounds_toArray, List.set_cons_zero, List.set_cons_succ]
        refine wpTo_ready (rs := [6]) (by kernel_rfl) (by simp) ?_
        refine AllTo.cons (o := _) rfl (fun K hK => ?_) ?_
        · (try simp only [List.getElem_toArray, List.getElem_cons_zero, List.getElem_cons_succ])
          go_simp
          refine (bulkOf_any r h _ 1 _ [u] u5 ((unhide HR).mono (unhide Bu5)) hs ((unhide HG).later (unhide Bu5)) (Rd.of_blk1 (unhide Kuu5)) (by omega)).mono ?_
          rintro e u6 ⟨rfl, hb⟩
          have Bu6 := hide ((unhide Bu5).trans (hb.mono (unhide Bu5).size))
          have Kau6 := hide (Blk.below hb Zau5 (unhide Kau5))
          have Zau6 : w.heap.size < u6.heap.size := Nat.lt_of_lt_of_le Zau5 hb.size
          have Ktu6 := hide (Blk.below hb Ztu5 (unhide Ktu5))
          have Ztu6 : v2.heap.size < u6.heap.size := Nat.lt_of_lt_of_le Ztu5 hb.size
          have Kuu6 := hide (Blk.below hb Zuu5 (unhide Kuu5))
          have Zuu6 : u4.heap.size < u6.heap.size := Nat.lt_of_lt_of_le Zuu5 hb.size
          clear hb
          clear Bu5 Kau5 Zau5 Ktu5 Ztu5 Kuu5 Zuu5
          clear hHeld
          go_wp2_with fail
          have hHeld := hSmk u6 (unhide Kau6) (unhide Ktu6)
          refine hK.out _ _ (fun _ => hHeld) ?_
          clear hK K
          try simp only [Act.put, List.getElem_toArray, List.getElem_cons_zero, List.getElem_cons_succ, List.setIfInBounds_toArray, List.set_cons_zero, List.set_cons_succ]
          refine wpTo_ready (rs := [7]) (by kernel_rfl) (by simp) ?_
          refine AllTo.cons (o := _) rfl (fun K hK => ?_) ?_
          · (try simp only [List.getElem_toArray, List.getElem_cons_zero, List.getElem_cons_succ])
            go_simp
            refine (with_any _ _ _ _ _ (by have := unhide HV; have := unhide HV1; omega) (by have := unhide HV; have := unhide HV1; omega) (by have := unhide HM; have := unhide HM1; omega) (by have := unhide HM; have := unhide HM1; omega)).mono ?_
            rintro e u7 ⟨rfl, hb⟩
            have Bu7 := hide ((unhide Bu6).trans (hb.mono (unhide Bu6).size))
            have Kau7 := hide (Blk.below hb Zau6 (unhide Kau6))
            have Zau7 : w.heap.size < u7.heap.size := Nat.lt_of_lt_of_le Zau6 hb.size
            have Ktu7 := hide (Blk.below hb Ztu6 (unhide Ktu6))
            have Ztu7 : v2.heap.size < u7.heap.size := Nat.lt_of_lt_of_le Ztu6 hb.size
            have Kuu7 := hide (Blk.below hb Zuu6 (unhide Kuu6))
            have Zuu7 : u4.heap.size < u7.heap.size := Nat.lt_of_lt_of_le Zuu6 hb.size
            clear hb
            clear Bu6 Kau6 Zau6 Ktu6 Ztu6 Kuu6 Zuu6
            clear hHeld
            go_wp2_with fail
            have hHeld := hSmk u7 (unhide Kau7) (unhide Ktu7)
            refine hK.out _ _ (fun _ => hHeld) ?_
            clear hK K
            try simp only [Act.put, List.getElem_toArray, List.getElem_cons_zero, List.getElem_cons_succ, List.setIfInBounds_toArray, List.set_cons_zero, List.set_cons_succ]
            refine wpTo_ready (rs := [9]) (by kernel_rfl) (by simp) ?_
            refine AllTo.cons (o := _) rfl (fun K hK => ?_) ?_
            · (try simp only [List.getElem_toArray, List.getElem_cons_zero, List.getElem_cons_succ])
              go_simp
              refine (mostOf_any _ _).mono ?_
              rintro e u8 ⟨rfl, hb⟩
              have Bu8 := hide ((unhide Bu7).trans (hb.mono (unhide Bu7).size))
              have Kau8 := hide (Blk.below hb Zau7 (unhide Kau7))
              have Zau8 : w.heap.size < u8.heap.size := Nat.lt_of_lt_of_le Zau7 hb.size
              have Ktu8 := hide (Blk.below hb Ztu7 (unhide Ktu7))
              have Ztu8 : v2.heap.size < u8.heap.size := Nat.lt_of_lt_of_le Ztu7 hb.size
              have Kuu8 := hide (Blk.below hb Zuu7 (unhide Kuu7))
              have Zuu8 : u4.heap.size < u8.heap.size := Nat.lt_of_lt_of_le Zuu7 hb.size
              clear hb
              clear Bu7 Kau7 Zau7 Ktu7 Ztu7 Kuu7 Zuu7
              clear hHeld
              go_wp2_with fail
              have hHeld := hSmk u8 (unhide Kau8) (unhide Ktu8)
              refine hK.out _ _ (fun _ => hHeld) ?_
              clear hK K
              try simp only [Act.put, List.getElem_toArray, List.getElem_cons_zero, List.getElem_cons_succ, List.setIfInBounds_toArray, List.set_cons_zero, List.set_cons_succ]
              refine wpTo_ready (rs := [10]) (by kernel_rfl) (by simp) ?_
              refine AllTo.cons (o := _) rfl (fun K hK => ?_) ?_
              · (try simp only [List.getElem_toArray, List.getElem_cons_zero, List.getElem_cons_succ])
                go_simp
                refine (isIn_any _ _ _ _ _).mono ?_
                rintro e u9 ⟨rfl, hb⟩
                have Bu9 := hide ((unhide Bu8).trans (hb.mono (unhide Bu8).size))
                have Kau9 := hide (Blk.below hb Zau8 (unhide Kau8))
                have Zau9 : w.heap.size < u9.heap.size := Nat.lt_of_lt_of_le Zau8 hb.size
                have Ktu9 := hide (Blk.below hb Ztu8 (unhide Ktu8))
                have Ztu9 : v2.heap.size < u9.heap.size := Nat.lt_of_lt_of_le Ztu8 hb.size
                have Kuu9 := hide (Blk.below hb Zuu8 (unhide Kuu8))
                have Zuu9 : u4.heap.size < u9.heap.size := Nat.lt_of_lt_of_le Zuu8 hb.size
                clear hb
                clear Bu8 Kau8 Zau8 Ktu8 Ztu8 Kuu8 Zuu8
                clear hHeld
                go_wp2_with fail
                have hHeld := hSmk u9 (unhide Kau9) (unhide Ktu9)
                refine hK.out _ _ (fun _ => hHeld) ?_
                clear hK K
                try simp only [Act.put, List.getElem_toArray, List.getElem_cons_zero, List.getElem_cons_succ, List.setIfInBounds_toArray, List.set_cons_zero, List.set_cons_succ]
                refine wpTo_take (i := 11) (v := ?_) rfl (by kernel_rfl) (by kernel_rfl) (by kernel_rfl) (by kernel_rfl) (by kernel_rfl) (fun _ _ _ h => h) (Or.inl ⟨by rfl, ?_⟩) (by assumption) ?_
                rotate_left
                · intro w hSw
                  have hSw := hSd _ hSw
                  (try dsimp only at hSw)
                  go_simp <;> with_reducible rfl
                try simp only [Act.put, List.getElem_toArray, List.getElem_cons_zero, List.getElem_cons_succ, List.setIfInBounds_toArray, List.set_cons_zero, List.set_cons_succ]
                refine wpTo_done (by kernel_rfl) ?_ _
                refine NoPanic.normal ?_
                go_wp2_with fail
                go_meet
                case rel => exact ⟨congrArg Value.bool (roomB_of _ _ _ _), unhide Bu9⟩
              exact AllTo.nil
            exact AllTo.nil
          exact AllTo.nil
        exact AllTo.nil
      exact AllTo.nil
    refine AllTo.cons (o := _) rfl (fun K hK => ?_) ?_
    · (try simp only [List.getElem_toArray, List.getElem_cons_zero, List.getElem_cons_succ])
      have Bu4 := hide ((unhide Bu0).alloc (unhide Bu0).size (.cells #[.int .i64 u] 3))
      have Kuu4 : Hid (Blk (u0.alloc (.cells #[.int .i64 u] 3)) u0.heap.size [.int .i64 u]) := Blk.allocAt [.int .i64 u] rfl
      have Zuu4 := lt_alloc_new u0 (.cells #[.int .i64 u] 3)
      have Gu : w.heap.size ≤ u0.heap.size := (unhide Bu0).size
      have Kau4 := hide ((unhide Kau0).allocOld Zau0 (.cells #[.int .i64 u] 3))
      have Zau4 := lt_alloc Zau0 (.cells #[.int .i64 u] 3)
      have Nqau : w.heap.size ≠ u0.heap.size := Nat.ne_of_lt Zau0
      have Nqua := Ne.symm Nqau
      have Ktu4 := hide ((unhide Ktu0).allocOld Ztu0 (.cells #[.int .i64 u] 3))
      have Ztu4 := lt_alloc Ztu0 (.cells #[.int .i64 u] 3)
      have Nqtu : v2.heap.size ≠ u0.heap.size := Nat.ne_of_lt Ztu0
      have Nqut := Ne.symm Nqtu
      go_simp
      clear hHeld
      clear Bu0 Kau0 Zau0 Ktu0 Ztu0
      generalize (u0.alloc (.cells #[.int .i64 u] 3)) = u4 at *
      have hHeld := hSmk u4 (unhide Kau4) (unhide Ktu4)
      refine hK.out _ _ (fun _ => hHeld) ?_
      clear hK K
      try simp only [Act.put, List.getElem_toArray, List.getElem_cons_zero, List.getElem_cons_succ, List.setIfInBounds_toArray, List.set_cons_zero, List.set_cons_succ]
      refine wpTo_ready (rs := [2]) (by kernel_rfl) (by simp) ?_
      refine AllTo.cons (o := _) rfl (fun K hK => ?_) ?_
      · (try simp only [List.getElem_toArray, List.getElem_cons_zero, List.getElem_cons_succ])
        go_simp
        refine (bulkOf_any r h a n c us u4 ((unhide HR).mono (unhide Bu4)) hs ((unhide HG).later (unhide Bu4)) ((unhide HU).mono (unhide Bu4)) hn).mono ?_
        rintro e u5 ⟨rfl, hb⟩
        have Bu5 := hide ((unhide Bu4).trans (hb.mono (unhide Bu4).size))
        have Kau5 := hide (Blk.below hb Zau4 (unhide Kau4))
        have Zau5 : w.heap.size < u5.heap.size := Nat.lt_of_lt_of_le Zau4 hb.size
        have Ktu5 := hide (Blk.below hb Ztu4 (unhide Ktu4))
        have Ztu5 : v2.heap.size < u5.heap.size := Nat.lt_of_lt_of_le Ztu4 hb.size
        have Kuu5 := hide (Blk.below hb Zuu4 (unhide Kuu4))
        have Zuu5 : u0.heap.size < u5.heap.size := Nat.lt_of_lt_of_le Zuu4 hb.size
        clear hb
        clear Bu4 Kau4 Zau4 Ktu4 Ztu4 Kuu4 Zuu4
        clear hHeld
        go_wp2_with fail
        have hHeld := hSmk u5 (unhide Kau5) (unhide Ktu5)
        refine hK.out _ _ (fun _ => hHeld) ?_
        clear hK K
        try simp only [Act.put, List.getElem_toArray, List.getElem_cons_zero, List.getElem_cons_succ, List.setIfInBounds_toArray, List.set_cons_zero, List.set_cons_succ]
        refine wpTo_ready (rs := [6]) (by kernel_rfl) (by simp) ?_
        refine AllTo.cons (o := _) rfl (fun K hK => ?_) ?_
        · (try simp only [List.getElem_toArray, List.getElem_cons_zero, List.getElem_cons_succ])
          go_simp
          refine (bulkOf_any r h _ 1 _ [u] u5 ((unhide HR).mono (unhide Bu5)) hs ((unhide HG).later (unhide Bu5)) (Rd.of_blk1 (unhide Kuu5)) (by omega)).mono ?_
          rintro e u6 ⟨rfl, hb⟩
          have Bu6 := hide ((unhide Bu5).trans (hb.mono (unhide Bu5).size))
          have Kau6 := hide (Blk.below hb Zau5 (unhide Kau5))
          have Zau6 : w.heap.size < u6.heap.size := Nat.lt_of_lt_of_le Zau5 hb.size
          have Ktu6 := hide (Blk.below hb Ztu5 (unhide Ktu5))
          have Ztu6 : v2.heap.size < u6.heap.size := Nat.lt_of_lt_of_le Ztu5 hb.size
          have Kuu6 := hide (Blk.below hb Zuu5 (unhide Kuu5))
          have Zuu6 : u0.heap.size < u6.heap.size := Nat.lt_of_lt_of_le Zuu5 hb.size
          clear hb
          clear Bu5 Kau5 Zau5 Ktu5 Ztu5 Kuu5 Zuu5
          clear hHeld
          go_wp2_with fail
          have hHeld := hSmk u6 (unhide Kau6) (unhide Ktu6)
          refine hK.out _ _ (fun _ => hHeld) ?_
          clear hK K
          try simp only [Act.put, List.getElem_toArray, List.getElem_cons_zero, List.getElem_cons_succ, List.setIfInBounds_toArray, List.set_cons_zero, List.set_cons_succ]
          refine wpTo_ready (rs := [7]) (by kernel_rfl) (by simp) ?_
          refine AllTo.cons (o := _) rfl (fun K hK => ?_) ?_
          · (try simp only [List.getElem_toArray, List.getElem_cons_zero, List.getElem_cons_succ])
            go_simp
            refine (with_any _ _ _ _ _ (by have := unhide HV; have := unhide HV1; omega) (by have := unhide HV; have := unhide HV1; omega) (by have := unhide HM; have := unhide HM1; omega) (by have := unhide HM; have := unhide HM1; omega)).mono ?_
            rintro e u7 ⟨rfl, hb⟩
            have Bu7 := hide ((unhide Bu6).trans (hb.mono (unhide Bu6).size))
            have Kau7 := hide (Blk.below hb Zau6 (unhide Kau6))
            have Zau7 : w.heap.size < u7.heap.size := Nat.lt_of_lt_of_le Zau6 hb.size
            have Ktu7 := hide (Blk.below hb Ztu6 (unhide Ktu6))
            have Ztu7 : v2.heap.size < u7.heap.size := Nat.lt_of_lt_of_le Ztu6 hb.size
            have Kuu7 := hide (Blk.below hb Zuu6 (unhide Kuu6))
            have Zuu7 : u0.heap.size < u7.heap.size := Nat.lt_of_lt_of_le Zuu6 hb.size
            clear hb
            clear Bu6 Kau6 Zau6 Ktu6 Ztu6 Kuu6 Zuu6
            clear hHeld
            go_wp2_with fail
            have hHeld := hSmk u7 (unhide Kau7) (unhide Ktu7)
            refine hK.out _ _ (fun _ => hHeld) ?_
            clear hK K
            try simp only [Act.put, List.getElem_toArray, List.getElem_cons_zero, List.getElem_cons_succ, List.setIfInBounds_toArray, List.set_cons_zero, List.set_cons_succ]
            refine wpTo_ready (rs := [9]) (by kernel_rfl) (by simp) ?_
            refine AllTo.cons (o := _) rfl (fun K hK => ?_) ?_
            · (try simp only [List.getElem_toArray, List.getElem_cons_zero, List.getElem_cons_succ])
              go_simp
              refine (mostOf_any _ _).mono ?_
              rintro e u8 ⟨rfl, hb⟩
              have Bu8 := hide ((unhide Bu7).trans (hb.mono (unhide Bu7).size))
              have Kau8 := hide (Blk.below hb Zau7 (unhide Kau7))
              have Zau8 : w.heap.size < u8.heap.size := Nat.lt_of_lt_of_le Zau7 hb.size
              have Ktu8 := hide (Blk.below hb Ztu7 (unhide Ktu7))
              have Ztu8 : v2.heap.size < u8.heap.size := Nat.lt_of_lt_of_le Ztu7 hb.size
              have Kuu8 := hide (Blk.below hb Zuu7 (unhide Kuu7))
              have Zuu8 : u0.heap.size < u8.heap.size := Nat.lt_of_lt_of_le Zuu7 hb.size
              clear hb
              clear Bu7 Kau7 Zau7 Ktu7 Ztu7 Kuu7 Zuu7
              clear hHeld
              go_wp2_with fail
              have hHeld := hSmk u8 (unhide Kau8) (unhide Ktu8)
              refine hK.out _ _ (fun _ => hHeld) ?_
              clear hK K
              try simp only [Act.put, List.getElem_toArray, List.getElem_cons_zero, List.getElem_cons_succ, List.setIfInBounds_toArray, List.set_cons_zero, List.set_cons_succ]
              refine wpTo_ready (rs := [10]) (by kernel_rfl) (by simp) ?_
              refine AllTo.cons (o := _) rfl (fun K hK => ?_) ?_
              · (try simp only [List.getElem_toArray, List.getElem_cons_zero, List.getElem_cons_succ])
                go_simp
                refine (isIn_any _ _ _ _ _).mono ?_
                rintro e u9 ⟨rfl, hb⟩
                have Bu9 := hide ((unhide Bu8).trans (hb.mono (unhide Bu8).size))
                have Kau9 := hide (Blk.below hb Zau8 (unhide Kau8))
                have Zau9 : w.heap.size < u9.heap.size := Nat.lt_of_lt_of_le Zau8 hb.size
                have Ktu9 := hide (Blk.below hb Ztu8 (unhide Ktu8))
                have Ztu9 : v2.heap.size < u9.heap.size := Nat.lt_of_lt_of_le Ztu8 hb.size
                have Kuu9 := hide (Blk.below hb Zuu8 (unhide Kuu8))
                have Zuu9 : u0.heap.size < u9.heap.size := Nat.lt_of_lt_of_le Zuu8 hb.size
                clear hb
                clear Bu8 Kau8 Zau8 Ktu8 Ztu8 Kuu8 Zuu8
                clear hHeld
                go_wp2_with fail
                have hHeld := hSmk u9 (unhide Kau9) (unhide Ktu9)
                refine hK.out _ _ (fun _ => hHeld) ?_
                clear hK K
                try simp only [Act.put, List.getElem_toArray, List.getElem_cons_zero, List.getElem_cons_succ, List.setIfInBounds_toArray, List.set_cons_zero, List.set_cons_succ]
                refine wpTo_take (i := 11) (v := ?_) rfl (by kernel_rfl) (by kernel_rfl) (by kernel_rfl) (by kernel_rfl) (by kernel_rfl) (fun _ _ _ h => h) (Or.inl ⟨by rfl, ?_⟩) (by assumption) ?_
                rotate_left
                · intro w hSw
                  have hSw := hSd _ hSw
                  (try dsimp only at hSw)
                  go_simp <;> with_reducible rfl
                try simp only [Act.put, List.getElem_toArray, List.getElem_cons_zero, List.getElem_cons_succ, List.setIfInBounds_toArray, List.set_cons_zero, List.set_cons_succ]
                refine wpTo_done (by kernel_rfl) ?_ _
                refine NoPanic.normal ?_
                go_wp2_with fail
                go_meet
                case rel => exact ⟨congrArg Value.bool (roomB_of _ _ _ _), unhide Bu9⟩
              exact AllTo.nil
            exact AllTo.nil
          exact AllTo.nil
        exact AllTo.nil
      exact AllTo.nil
    exact AllTo.nil
  case rest =>
    obtain ⟨rfl, hb⟩ := hcut
    have HB := hide hb
    clear hb
    go_wp2
    go_ret
    exact ⟨ret_boolF (unhide HE).symm, unhide HB⟩
end Go.Proofs.YtpoonidoijepaaaGreatDoor
