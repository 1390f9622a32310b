/- The program's Fits. -/
import Derived.Test.YtlakbnpinennnaaGreatDoorFitsPlain
import Derived.Test.YtlakbnpinennnaaGreatDoorBw
import Derived.Test.YtlakbnpinennnaaGreatDoorHeldTo
import Derived.Deep.DeepCutAuto
import Derived.Deep.DeepMust
import Derived.Deep.RegionHeld3
namespace Go.Proofs.YtlakbnpinennnaaGreatDoor
open Go.RowKit
set_option linter.unusedVariables false
set_option linter.unusedSimpArgs false

theorem fits_all (x : ItemV) (t : TypeV) (h : ∀ m, m < 3 → (srt3 x.wd x.ht x.dp).getD m 0 ≤ (srt3 t.wd t.ht t.dp).getD m 0) : fitsB x t = decide (x.gram ≤ t.gram) := by
  have h0 := h 0 (by omega)
  have h1 := h 1 (by omega)
  have h2 := h 2 (by omega)
  simp [srt3] at h0 h1 h2
  simp [fitsB, sidesLe, h0, h1, h2]
theorem fits_not (x : ItemV) (t : TypeV) (h : ¬ ∀ m, m < 3 → (srt3 x.wd x.ht x.dp).getD m 0 ≤ (srt3 t.wd t.ht t.dp).getD m 0) : fitsB x t = false := by
  cases e : fitsB x t
  · rfl
  · exfalso
    apply h
    simp [fitsB, sidesLe] at e
    intro m hm
    obtain rfl | rfl | rfl : m = 0 ∨ m = 1 ∨ m = 2 := by omega
    · simpa [srt3] using e.1.1.1
    · simpa [srt3] using e.1.1.2
    · simpa [srt3] using e.1.2
set_option maxHeartbeats 1600000 in
theorem sidesUp_any (a b c : Int) (w : World) : Calls Tryz.prog 153 #[.int .i64 a, .int .i64 b, .int .i64 c] w fun e w' =>
    e = .returned (.agg #[.int .i64 (lo3 a b c), .int .i64 (mid3 a b c), .int .i64 (hi3 a b c)]) ∧ Below w.heap.size w w' := by
  go_enter Tryz.func153, Tryz.ntmps153
  go_wp2_with fail
  refine (sortI_any (w.heap.size + 1) 3 3 [a, b, c] _ rfl (by omega) (by omega) ?_).mono ?_
  · exact Blk.allocAt (ci [a, b, c]) (by simp)
  rintro e w1 ⟨rfl, M, hp, hs, hB, hg⟩
  obtain rfl := srt3_of hp hs
  have c0 := (hB 0 (by simp [ci, srt3])).1
  have c1 := (hB 1 (by simp [ci, srt3])).1
  have c2 := (hB 2 (by simp [ci, srt3])).1
  simp only [ci, srt3, List.map_cons, List.map_nil, List.getElem?_cons_zero, List.getElem?_cons_succ] at c0 c1 c2
  have hR : Blk w1 w.heap.size [.int .i64 0, .int .i64 0, .int .i64 0] := Blk.gb ((Blk.allocAt [.int .i64 0, .int .i64 0, .int .i64 0] rfl).allocOld (by simp) _) hg (by simp; omega) (by omega)
  have r0 := (hR 0 (by simp)).1
  have r1 := (hR 1 (by simp)).1
  have r2 := (hR 2 (by simp)).1
  have f0 := (hR 0 (by simp)).2
  have f1 := (hR 1 (by simp)).2
  have f2 := (hR 2 (by simp)).2
  have HB : Hid (Below w.heap.size w w1) := (((Below.refl w.heap.size w).alloc (Nat.le_refl _) _).alloc (by simp) _).grown hg (by simp; omega) (by intro k hk; cases hk; omega)
  clear hR hB hg hp hs
  go_wp2_with fail
  refine bodyPost_ret (v := .agg #[.int .i64 (lo3 a b c), .int .i64 (mid3 a b c), .int .i64 (hi3 a b c)]) (by simp [results, Tryz.results153, go_sem, r0, r1, r2]) rfl ⟨rfl, ?_⟩
  exact (((unhide HB).setCell (Nat.le_refl _) _).setCell (Nat.le_refl _) _).setCell (Nat.le_refl _) _

set_option maxHeartbeats 4000000 in
theorem fits_any (x : ItemV) (t : TypeV) (w : World) : Calls Tryz.prog 143 #[.agg #[.int .i64 x.id, .int .i64 x.wd, .int .i64 x.ht, .int .i64 x.dp, .int .i64 x.gram, .int .i64 x.cls, .int .i64 x.cnt], .agg #[.int .i64 t.id, .int .i64 t.wd, .int .i64 t.ht, .int .i64 t.dp, .int .i64 t.tare, .int .i64 t.gram, .int .i64 t.cost]] w fun e w' => e = .returned (.bool (fitsB x t)) ∧ Below w.heap.size w w' := by
  go_enter Tryz.func143, Tryz.ntmps143
  go_wp2
  have HX : Blk ((w.alloc (.cells #[.int .i64 x.id, .int .i64 x.wd, .int .i64 x.ht, .int .i64 x.dp, .int .i64 x.gram, .int .i64 x.cls, .int .i64 x.cnt] 43)).alloc (.cells #[.int .i64 t.id, .int .i64 t.wd, .int .i64 t.ht, .int .i64 t.dp, .int .i64 t.tare, .int .i64 t.gram, .int .i64 t.cost] 69)) w.heap.size [.int .i64 x.id, .int .i64 x.wd, .int .i64 x.ht, .int .i64 x.dp, .int .i64 x.gram, .int .i64 x.cls, .int .i64 x.cnt] := (Blk.allocAt [.int .i64 x.id, .int .i64 x.wd, .int .i64 x.ht, .int .i64 x.dp, .int .i64 x.gram, .int .i64 x.cls, .int .i64 x.cnt] rfl).allocOld (by simp) _
  have HT : Blk ((w.alloc (.cells #[.int .i64 x.id, .int .i64 x.wd, .int .i64 x.ht, .int .i64 x.dp, .int .i64 x.gram, .int .i64 x.cls, .int .i64 x.cnt] 43)).alloc (.cells #[.int .i64 t.id, .int .i64 t.wd, .int .i64 t.ht, .int .i64 t.dp, .int .i64 t.tare, .int .i64 t.gram, .int .i64 t.cost] 69)) (w.heap.size + 1) [.int .i64 t.id, .int .i64 t.wd, .int .i64 t.ht, .int .i64 t.dp, .int .i64 t.tare, .int .i64 t.gram, .int .i64 t.cost] := Blk.allocAt [.int .i64 t.id, .int .i64 t.wd, .int .i64 t.ht, .int .i64 t.dp, .int .i64 t.tare, .int .i64 t.gram, .int .i64 t.cost] (by simp)
  have HB : Hid (Below w.heap.size w ((w.alloc (.cells #[.int .i64 x.id, .int .i64 x.wd, .int .i64 x.ht, .int .i64 x.dp, .int .i64 x.gram, .int .i64 x.cls, .int .i64 x.cnt] 43)).alloc (.cells #[.int .i64 t.id, .int .i64 t.wd, .int .i64 t.ht, .int .i64 t.dp, .int .i64 t.tare, .int .i64 t.gram, .int .i64 t.cost] 69))) := ((Below.refl w.heap.size w).alloc (Nat.le_refl _) _).alloc (by simp) _
  have hz : ((w.alloc (.cells #[.int .i64 x.id, .int .i64 x.wd, .int .i64 x.ht, .int .i64 x.dp, .int .i64 x.gram, .int .i64 x.cls, .int .i64 x.cnt] 43)).alloc (.cells #[.int .i64 t.id, .int .i64 t.wd, .int .i64 t.ht, .int .i64 t.dp, .int .i64 t.tare, .int .i64 t.gram, .int .i64 t.cost] 69)).heap.size = w.heap.size + 2 := by simp
  generalize (w.alloc (.cells #[.int .i64 x.id, .int .i64 x.wd, .int .i64 x.ht, .int .i64 x.dp, .int .i64 x.gram, .int .i64 x.cls, .int .i64 x.cnt] 43)).alloc (.cells #[.int .i64 t.id, .int .i64 t.wd, .int .i64 t.ht, .int .i64 t.dp, .int .i64 t.tare, .int .i64 t.gram, .int .i64 t.cost] 69) = W at *
  obtain ⟨G, hG⟩ : ∃ G, G = w.heap.size := ⟨_, rfl⟩
  rw [← hG] at HX HT hz ⊢
  have x1 : W.cell? ⟨G, 1, none⟩ = some (.int .i64 x.wd) := (HX 1 (by simp)).1
  have x2 : W.cell? ⟨G, 2, none⟩ = some (.int .i64 x.ht) := (HX 2 (by simp)).1
  have x3 : W.cell? ⟨G, 3, none⟩ = some (.int .i64 x.dp) := (HX 3 (by simp)).1
  have t1 : W.cell? ⟨G + 1, 1, none⟩ = some (.int .i64 t.wd) := (HT 1 (by simp)).1
  have t2 : W.cell? ⟨G + 1, 2, none⟩ = some (.int .i64 t.ht) := (HT 2 (by simp)).1
  have t3 : W.cell? ⟨G + 1, 3, none⟩ = some (.int .i64 t.dp) := (HT 3 (by simp)).1
  have HG := hide hG
  have KS : Hid (∀ w', Below W.heap.size W w' → (w'.cell? ⟨G, 1, none⟩ = some (.int .i64 x.wd) ∧ w'.cell? ⟨G, 2, none⟩ = some (.int .i64 x.ht) ∧ w'.cell? ⟨G, 3, none⟩ = some (.int .i64 x.dp)
     ∧ w'.cell? ⟨G + 1, 1, none⟩ = some (.int .i64 t.wd) ∧ w'.cell? ⟨G + 1, 2, none⟩ = some (.int .i64 t.ht) ∧ w'.cell? ⟨G + 1, 3, none⟩ = some (.int .i64 t.dp))) := by
    intro w' hb
    have l0 : G < W.heap.size := by omega
    have l1 : G + 1 < W.heap.size := by omega
    exact ⟨(hb.cell (p := ⟨G, 1, none⟩) l0).trans x1, (hb.cell (p := ⟨G, 2, none⟩) l0).trans x2, (hb.cell (p := ⟨G, 3, none⟩) l0).trans x3, (hb.cell (p := ⟨G + 1, 1, none⟩) l1).trans t1, (hb.cell (p := ⟨G + 1, 2, none⟩) l1).trans t2, (hb.cell (p := ⟨G + 1, 3, none⟩) l1).trans t3⟩
  have HXX := hide HX
  have HTT := hide HT
  have HZ := hide hz
  have lt0 : G < W.heap.size := by omega
  have lt1 : G + 1 < W.heap.size := by omega
  clear hG HX HT hz x1 x2 x3 t1 t2 t3
  have B1 : Hid (Below W.heap.size W W) := Below.refl _ _
  go_cut [5, 6] (fun p q wc => ∃ g h, p = .pointer (some ⟨g, 0, none⟩) ∧ q = .pointer (some ⟨h, 0, none⟩) ∧ Blk wc g [.int .i64 (lo3 x.wd x.ht x.dp), .int .i64 (mid3 x.wd x.ht x.dp), .int .i64 (hi3 x.wd x.ht x.dp)] ∧ Blk wc h [.int .i64 (lo3 t.wd t.ht t.dp), .int .i64 (mid3 t.wd t.ht t.dp), .int .i64 (hi3 t.wd t.ht t.dp)] ∧ Below W.heap.size W wc)
  case first =>
    refine wp_region_noPanic ?_
    refine wp_region_to (S := fun w' => w'.cell? ⟨G, 1, none⟩ = some (.int .i64 x.wd) ∧ w'.cell? ⟨G, 2, none⟩ = some (.int .i64 x.ht) ∧ w'.cell? ⟨G, 3, none⟩ = some (.int .i64 x.dp) ∧ w'.cell? ⟨G + 1, 1, none⟩ = some (.int .i64 t.wd) ∧ w'.cell? ⟨G + 1, 2, none⟩ = some (.int .i64 t.ht) ∧ w'.cell? ⟨G + 1, 3, none⟩ = some (.int .i64 t.dp)) (T := []) (by kernel_rfl) ((unhide KS) _ (Below.refl _ _).drew) (fun hHeld => ?_)
    have Bu0 : Hid (Below W.heap.size W W.drew) := (Below.refl _ _).drew
    generalize W.drew = u0 at *
    refine wpTo_take (i := 0) (v := ?_) rfl (by kernel_rfl) (by kernel_rfl) (by kernel_rfl) (by kernel_rfl) (by kernel_rfl) (fun _ _ _ h => h) (Or.inl ⟨by rfl, ?_⟩) (by assumption) ?_
    rotate_left
    · intro w hSw
      (try dsimp only at hSw)
      go_simp <;> with_reducible rfl
    try simp only [Act.put, List.getElem_toArray, List.getElem_cons_zero, List.getElem_cons_succ, List.setIfInBounds_toArray, List.set_cons_zero, List.set_cons_succ]
    refine wpTo_take (i := 1) (v := ?_) rfl (by kernel_rfl) (by kernel_rfl) (by kernel_rfl) (by kernel_rfl) (by kernel_rfl) (fun _ _ _ h => h) (Or.inl ⟨by rfl, ?_⟩) (by assumption) ?_
    rotate_left
    · intro w hSw
      (try dsimp only at hSw)
      go_simp <;> with_reducible rfl
    try simp only [Act.put, List.getElem_toArray, List.getElem_cons_zero, List.getElem_cons_succ, List.setIfInBounds_toArray, List.set_cons_zero, List.set_cons_succ]
    refine wpTo_take (i := 2) (v := ?_) rfl (by kernel_rfl) (by kernel_rfl) (by kernel_rfl) (by kernel_rfl) (by kernel_rfl) (fun _ _ _ h => h) (Or.inl ⟨by rfl, ?_⟩) (by assumption) ?_
    rotate_left
    · intro w hSw
      (try dsimp only at hSw)
      go_simp <;> with_reducible rfl
    try simp only [Act.put, List.getElem_toArray, List.getElem_cons_zero, List.getElem_cons_succ, List.setIfInBounds_toArray, List.set_cons_zero, List.set_cons_succ]
    refine wpTo_take (i := 3) (v := ?_) rfl (by kernel_rfl) (by kernel_rfl) (by kernel_rfl) (by kernel_rfl) (by kernel_rfl) (fun _ _ _ h => h) (Or.inl ⟨by rfl, ?_⟩) (by assumption) ?_
    rotate_left
    · intro w hSw
      (try dsimp only at hSw)
      go_simp <;> with_reducible rfl
    try simp only [Act.put, List.getElem_toArray, List.getElem_cons_zero, List.getElem_cons_succ, List.setIfInBounds_toArray, List.set_cons_zero, List.set_cons_succ]
    refine wpTo_take (i := 4) (v := ?_) rfl (by kernel_rfl) (by kernel_rfl) (by kernel_rfl) (by kernel_rfl) (by kernel_rfl) (fun _ _ _ h => h) (Or.inl ⟨by rfl, ?_⟩) (by assumption) ?_
    rotate_left
    · intro w hSw
      (try dsimp only at hSw)
      go_simp <;> with_reducible rfl
    try simp only [Act.put, List.getElem_toArray, List.getElem_cons_zero, List.getElem_cons_succ, List.setIfInBounds_toArray, List.set_cons_zero, List.set_cons_succ]
    refine wpTo_take (i := 5) (v := ?_) rfl (by kernel_rfl) (by kernel_rfl) (by kernel_rfl) (by kernel_rfl) (by kernel_rfl) (fun _ _ _ h => h) (Or.inl ⟨by rfl, ?_⟩) (by assumption) ?_
    rotate_left
    · intro w hSw
      (try dsimp only at hSw)
      go_simp <;> with_reducible rfl
    try simp only [Act.put, List.getElem_toArray, List.getElem_cons_zero, List.getElem_cons_succ, List.setIfInBounds_toArray, List.set_cons_zero, List.set_cons_succ]
    refine wpTo_take (i := 7) (v := ?_) rfl (by kernel_rfl) (by kernel_rfl) (by kernel_rfl) (by kernel_rfl) (by kernel_rfl) (fun _ _ _ h => h) (Or.inl ⟨by rfl, ?_⟩) (by assumption) ?_
    rotate_left
    · intro w hSw
      (try dsimp only at hSw)
      go_simp <;> with_reducible rfl
    try simp only [Act.put, List.getElem_toArray, List.getElem_cons_zero, List.getElem_cons_succ, List.setIfInBounds_toArray, List.set_cons_zero, List.set_cons_succ]
    refine wpTo_take (i := 8) (v := ?_) rfl (by kernel_rfl) (by kernel_rfl) (by kernel_rfl) (by kernel_rfl) (by kernel_rfl) (fun _ _ _ h => h) (Or.inl ⟨by rfl, ?_⟩) (by assumption) ?_
    rotate_left
    · intro w hSw
      (try dsimp only at hSw)
      go_simp <;> with_reducible rfl
    try simp only [Act.put, List.getElem_toArray, List.getElem_cons_zero, List.getElem_cons_succ, List.setIfInBounds_toArray, List.set_cons_zero, List.set_cons_succ]
    refine wpTo_take (i := 9) (v := ?_) rfl (by kernel_rfl) (by kernel_rfl) (by kernel_rfl) (by kernel_rfl) (by kernel_rfl) (fun _ _ _ h => h) (Or.inl ⟨by rfl, ?_⟩) (by assumption) ?_
    rotate_left
    · intro w hSw
      (try dsimp only at hSw)
      go_simp <;> with_reducible rfl
    try simp only [Act.put, List.getElem_toArray, List.getElem_cons_zero, List.getElem_cons_succ, List.setIfInBounds_toArray, List.set_cons_zero, List.set_cons_succ]
    refine wpTo_take (i := 10) (v := ?_) rfl (by kernel_rfl) (by kernel_rfl) (by kernel_rfl) (by kernel_rfl) (by kernel_rfl) (fun _ _ _ h => h) (Or.inl ⟨by rfl, ?_⟩) (by assumption) ?_
    rotate_left
    · intro w hSw
      (try dsimp only at hSw)
      go_simp <;> with_reducible rfl
    try simp only [Act.put, List.getElem_toArray, List.getElem_cons_zero, List.getElem_cons_succ, List.setIfInBounds_toArray, List.set_cons_zero, List.set_cons_succ]
    refine wpTo_take (i := 11) (v := ?_) rfl (by kernel_rfl) (by kernel_rfl) (by kernel_rfl) (by kernel_rfl) (by kernel_rfl) (fun _ _ _ h => h) (Or.inl ⟨by rfl, ?_⟩) (by assumption) ?_
    rotate_left
    · intro w hSw
      (try dsimp only at hSw)
      go_simp <;> with_reducible rfl
    try simp only [Act.put, List.getElem_toArray, List.getElem_cons_zero, List.getElem_cons_succ, List.setIfInBounds_toArray, List.set_cons_zero, List.set_cons_succ]
    refine wpTo_take (i := 12) (v := ?_) rfl (by kernel_rfl) (by kernel_rfl) (by kernel_rfl) (by kernel_rfl) (by kernel_rfl) (fun _ _ _ h => h) (Or.inl ⟨by rfl, ?_⟩) (by assumption) ?_
    rotate_left
    · intro w hSw
      (try dsimp only at hSw)
      go_simp <;> with_reducible rfl
    try simp only [Act.put, List.getElem_toArray, List.getElem_cons_zero, List.getElem_cons_succ, List.setIfInBounds_toArray, List.set_cons_zero, List.set_cons_succ]
    (try clear hHeld)
    refine wpTo_ready (rs := [6, 14, 15]) (by kernel_rfl) (by simp) ?_
    refine AllTo.cons (o := _) rfl (fun K hK => ?_) ?_
    · (try simp only [List.getElem_toArray, List.getElem_cons_zero, List.getElem_cons_succ])
      go_simp
      refine (sidesUp_any _ _ _ _).mono ?_
      rintro e u1 ⟨rfl, hb⟩
      have Bu1 := hide (bw_call (unhide Bu0) hb)
      clear hb
      go_wp2_with fail
      refine hK.out _ _ (fun _ => (unhide KS) _ (unhide Bu1)) ?_
      clear hK K
      try simp only [Act.put, List.getElem_toArray, List.getElem_cons_zero, List.getElem_cons_succ, List.setIfInBounds_toArray, List.set_cons_zero, List.set_cons_succ]
      (try clear hHeld)
      refine wpTo_ready (rs := [13, 14, 15]) (by kernel_rfl) (by simp) ?_
      refine AllTo.cons (o := _) rfl (fun K hK => ?_) ?_
      · (try simp only [List.getElem_toArray, List.getElem_cons_zero, List.getElem_cons_succ])
        go_simp
        refine (sidesUp_any _ _ _ _).mono ?_
        rintro e u2 ⟨rfl, hb⟩
        have Bu2 := hide (bw_call (unhide Bu1) hb)
        clear hb
        go_wp2_with fail
        refine hK.out _ _ (fun _ => (unhide KS) _ (unhide Bu2)) ?_
        clear hK K
        try simp only [Act.put, List.getElem_toArray, List.getElem_cons_zero, List.getElem_cons_succ, List.setIfInBounds_toArray, List.set_cons_zero, List.set_cons_succ]
        (try clear hHeld)
        refine wpTo_ready (rs := [14, 15]) (by kernel_rfl) (by simp) ?_
        refine AllTo.cons (o := _) rfl (fun K hK => ?_) ?_
        · (try simp only [List.getElem_toArray, List.getElem_cons_zero, List.getElem_cons_succ])
          go_simp
          refine hK.out _ _ (fun _ => (unhide KS) _ (bw_alloc (unhide Bu2) _)) ?_
          clear hK K
          try simp only [Act.put, List.getElem_toArray, List.getElem_cons_zero, List.getElem_cons_succ, List.setIfInBounds_toArray, List.set_cons_zero, List.set_cons_succ]
          have Bu3 : Hid (Below W.heap.size W (u2.alloc (.cells #[.int .i64 0, .int .i64 0, .int .i64 0] 191))) := bw_alloc (unhide Bu2) _
          have Kpu3 : Hid (Blk (u2.alloc (.cells #[.int .i64 0, .int .i64 0, .int .i64 0] 191)) u2.heap.size [.int .i64 0, .int .i64 0, .int .i64 0]) := Blk.allocAt [.int .i64 0, .int .i64 0, .int .i64 0] rfl
          have Lpu3 : u2.heap.size < (u2.alloc (.cells #[.int .i64 0, .int .i64 0, .int .i64 0] 191)).heap.size := by simp
          have Gp : W.heap.size ≤ u2.heap.size := (unhide Bu2).size
          generalize (u2.alloc (.cells #[.int .i64 0, .int .i64 0, .int .i64 0] 191)) = u3 at *
          (try clear hHeld)
          refine wpTo_ready (rs := [15]) (by kernel_rfl) (by simp) ?_
          refine AllTo.cons (o := _) rfl (fun K hK => ?_) ?_
          · (try simp only [List.getElem_toArray, List.getElem_cons_zero, List.getElem_cons_succ])
            go_simp
            refine hK.out _ _ (fun _ => (unhide KS) _ (bw_alloc (unhide Bu3) _)) ?_
            clear hK K
            try simp only [Act.put, List.getElem_toArray, List.getElem_cons_zero, List.getElem_cons_succ, List.setIfInBounds_toArray, List.set_cons_zero, List.set_cons_succ]
            have Bu4 : Hid (Below W.heap.size W (u3.alloc (.cells #[.int .i64 0, .int .i64 0, .int .i64 0] 191))) := bw_alloc (unhide Bu3) _
            have Kqu4 : Hid (Blk (u3.alloc (.cells #[.int .i64 0, .int .i64 0, .int .i64 0] 191)) u3.heap.size [.int .i64 0, .int .i64 0, .int .i64 0]) := Blk.allocAt [.int .i64 0, .int .i64 0, .int .i64 0] rfl
            have Lqu4 : u3.heap.size < (u3.alloc (.cells #[.int .i64 0, .int .i64 0, .int .i64 0] 191)).heap.size := by simp
            have Gq : W.heap.size ≤ u3.heap.size := (unhide Bu3).size
            have Kpu4 : Hid (Blk (u3.alloc (.cells #[.int .i64 0, .int .i64 0, .int .i64 0] 191)) u2.heap.size [.int .i64 0, .int .i64 0, .int .i64 0]) := (unhide Kpu3).allocOld Lpu3 _
            have Lpu4 : u2.heap.size < (u3.alloc (.cells #[.int .i64 0, .int .i64 0, .int .i64 0] 191)).heap.size := by simp; omega
            have Npq : u2.heap.size ≠ u3.heap.size := Nat.ne_of_lt Lpu3
            have Nqp : u3.heap.size ≠ u2.heap.size := Ne.symm Npq
            clear Kpu3 Lpu3
            generalize (u3.alloc (.cells #[.int .i64 0, .int .i64 0, .int .i64 0] 191)) = u4 at *
            (try clear hHeld)
            refine wpTo_ready (rs := [16]) (by kernel_rfl) (by simp) ?_
            refine AllTo.cons (o := _) rfl (fun K hK => ?_) ?_
            · (try simp only [List.getElem_toArray, List.getElem_cons_zero, List.getElem_cons_succ])
              have p0 := ((unhide Kpu4) 0 (by simp)).1
              have q0 := ((unhide Kpu4) 0 (by simp)).2
              have p1 := ((unhide Kpu4) 1 (by simp)).1
              have q1 := ((unhide Kpu4) 1 (by simp)).2
              have p2 := ((unhide Kpu4) 2 (by simp)).1
              have q2 := ((unhide Kpu4) 2 (by simp)).2
              go_simp
              refine hK.out _ _ (fun _ => (unhide KS) _ (bw_set (bw_set (bw_set (unhide Bu4) Gp _) Gp _) Gp _)) ?_
              clear hK K
              try simp only [Act.put, List.getElem_toArray, List.getElem_cons_zero, List.getElem_cons_succ, List.setIfInBounds_toArray, List.set_cons_zero, List.set_cons_succ]
              clear p0 q0 p1 q1 p2 q2
              have Bu5 : Hid (Below W.heap.size W (((u4.setCell ⟨u2.heap.size, 0, none⟩ (.int .i64 (lo3 x.wd x.ht x.dp))).setCell ⟨u2.heap.size, 1, none⟩ (.int .i64 (mid3 x.wd x.ht x.dp))).setCell ⟨u2.heap.size, 2, none⟩ (.int .i64 (hi3 x.wd x.ht x.dp)))) := (bw_set (bw_set (bw_set (unhide Bu4) Gp _) Gp _) Gp _)
              have Kpu5 : Hid (Blk (((u4.setCell ⟨u2.heap.size, 0, none⟩ (.int .i64 (lo3 x.wd x.ht x.dp))).setCell ⟨u2.heap.size, 1, none⟩ (.int .i64 (mid3 x.wd x.ht x.dp))).setCell ⟨u2.heap.size, 2, none⟩ (.int .i64 (hi3 x.wd x.ht x.dp))) u2.heap.size [.int .i64 (lo3 x.wd x.ht x.dp), .int .i64 (mid3 x.wd x.ht x.dp), .int .i64 (hi3 x.wd x.ht x.dp)]) := Blk.fill3 (unhide Kpu4)
              have Lpu5 : u2.heap.size < (((u4.setCell ⟨u2.heap.size, 0, none⟩ (.int .i64 (lo3 x.wd x.ht x.dp))).setCell ⟨u2.heap.size, 1, none⟩ (.int .i64 (mid3 x.wd x.ht x.dp))).setCell ⟨u2.heap.size, 2, none⟩ (.int .i64 (hi3 x.wd x.ht x.dp))).heap.size := by simpa using Lpu4
              have Kqu5 : Hid (Blk (((u4.setCell ⟨u2.heap.size, 0, none⟩ (.int .i64 (lo3 x.wd x.ht x.dp))).setCell ⟨u2.heap.size, 1, none⟩ (.int .i64 (mid3 x.wd x.ht x.dp))).setCell ⟨u2.heap.size, 2, none⟩ (.int .i64 (hi3 x.wd x.ht x.dp))) u3.heap.size [.int .i64 0, .int .i64 0, .int .i64 0]) := ((((unhide Kqu4).other Nqp).other Nqp).other Nqp)
              have Lqu5 : u3.heap.size < (((u4.setCell ⟨u2.heap.size, 0, none⟩ (.int .i64 (lo3 x.wd x.ht x.dp))).setCell ⟨u2.heap.size, 1, none⟩ (.int .i64 (mid3 x.wd x.ht x.dp))).setCell ⟨u2.heap.size, 2, none⟩ (.int .i64 (hi3 x.wd x.ht x.dp))).heap.size := by simpa using Lqu4
              clear Kqu4 Lqu4
              clear Kpu4 Lpu4
              generalize (((u4.setCell ⟨u2.heap.size, 0, none⟩ (.int .i64 (lo3 x.wd x.ht x.dp))).setCell ⟨u2.heap.size, 1, none⟩ (.int .i64 (mid3 x.wd x.ht x.dp))).setCell ⟨u2.heap.size, 2, none⟩ (.int .i64 (hi3 x.wd x.ht x.dp))) = u5 at *
              (try clear hHeld)
              refine wpTo_ready (rs := [17]) (by kernel_rfl) (by simp) ?_
              refine AllTo.cons (o := _) rfl (fun K hK => ?_) ?_
              · (try simp only [List.getElem_toArray, List.getElem_cons_zero, List.getElem_cons_succ])
                have p0 := ((unhide Kqu5) 0 (by simp)).1
                have q0 := ((unhide Kqu5) 0 (by simp)).2
                have p1 := ((unhide Kqu5) 1 (by simp)).1
                have q1 := ((unhide Kqu5) 1 (by simp)).2
                have p2 := ((unhide Kqu5) 2 (by simp)).1
                have q2 := ((unhide Kqu5) 2 (by simp)).2
                go_simp
                refine hK.out _ _ (fun _ => (unhide KS) _ (bw_set (bw_set (bw_set (unhide Bu5) Gq _) Gq _) Gq _)) ?_
                clear hK K
                try simp only [Act.put, List.getElem_toArray, List.getElem_cons_zero, List.getElem_cons_succ, List.setIfInBounds_toArray, List.set_cons_zero, List.set_cons_succ]
                clear p0 q0 p1 q1 p2 q2
                have Bu6 : Hid (Below W.heap.size W (((u5.setCell ⟨u3.heap.size, 0, none⟩ (.int .i64 (lo3 t.wd t.ht t.dp))).setCell ⟨u3.heap.size, 1, none⟩ (.int .i64 (mid3 t.wd t.ht t.dp))).setCell ⟨u3.heap.size, 2, none⟩ (.int .i64 (hi3 t.wd t.ht t.dp)))) := (bw_set (bw_set (bw_set (unhide Bu5) Gq _) Gq _) Gq _)
                have Kqu6 : Hid (Blk (((u5.setCell ⟨u3.heap.size, 0, none⟩ (.int .i64 (lo3 t.wd t.ht t.dp))).setCell ⟨u3.heap.size, 1, none⟩ (.int .i64 (mid3 t.wd t.ht t.dp))).setCell ⟨u3.heap.size, 2, none⟩ (.int .i64 (hi3 t.wd t.ht t.dp))) u3.heap.size [.int .i64 (lo3 t.wd t.ht t.dp), .int .i64 (mid3 t.wd t.ht t.dp), .int .i64 (hi3 t.wd t.ht t.dp)]) := Blk.fill3 (unhide Kqu5)
                have Lqu6 : u3.heap.size < (((u5.setCell ⟨u3.heap.size, 0, none⟩ (.int .i64 (lo3 t.wd t.ht t.dp))).setCell ⟨u3.heap.size, 1, none⟩ (.int .i64 (mid3 t.wd t.ht t.dp))).setCell ⟨u3.heap.size, 2, none⟩ (.int .i64 (hi3 t.wd t.ht t.dp))).heap.size := by simpa using Lqu5
                have Kpu6 : Hid (Blk (((u5.setCell ⟨u3.heap.size, 0, none⟩ (.int .i64 (lo3 t.wd t.ht t.dp))).setCell ⟨u3.heap.size, 1, none⟩ (.int .i64 (mid3 t.wd t.ht t.dp))).setCell ⟨u3.heap.size, 2, none⟩ (.int .i64 (hi3 t.wd t.ht t.dp))) u2.heap.size [.int .i64 (lo3 x.wd x.ht x.dp), .int .i64 (mid3 x.wd x.ht x.dp), .int .i64 (hi3 x.wd x.ht x.dp)]) := ((((unhide Kpu5).other Npq).other Npq).other Npq)
                have Lpu6 : u2.heap.size < (((u5.setCell ⟨u3.heap.size, 0, none⟩ (.int .i64 (lo3 t.wd t.ht t.dp))).setCell ⟨u3.heap.size, 1, none⟩ (.int .i64 (mid3 t.wd t.ht t.dp))).setCell ⟨u3.heap.size, 2, none⟩ (.int .i64 (hi3 t.wd t.ht t.dp))).heap.size := by simpa using Lpu5
                clear Kpu5 Lpu5
                clear Kqu5 Lqu5
                generalize (((u5.setCell ⟨u3.heap.size, 0, none⟩ (.int .i64 (lo3 t.wd t.ht t.dp))).setCell ⟨u3.heap.size, 1, none⟩ (.int .i64 (mid3 t.wd t.ht t.dp))).setCell ⟨u3.heap.size, 2, none⟩ (.int .i64 (hi3 t.wd t.ht t.dp))) = u6 at *
                refine wpTo_done (by kernel_rfl) ?_ _
                refine NoPanic.normal ?_
                go_wp2_with fail
                go_meet
                case rel => exact ⟨_, _, rfl, rfl, unhide Kpu6, unhide Kqu6, unhide Bu6⟩
              exact AllTo.nil
            exact AllTo.nil
          exact AllTo.nil
        refine AllTo.cons (o := _) rfl (fun K hK => ?_) ?_
        · (try simp only [List.getElem_toArray, List.getElem_cons_zero, List.getElem_cons_succ])
          go_simp
          refine hK.out _ _ (fun _ => (unhide KS) _ (bw_alloc (unhide Bu2) _)) ?_
          clear hK K
          try simp only [Act.put, List.getElem_toArray, List.getElem_cons_zero, List.getElem_cons_succ, List.setIfInBounds_toArray, List.set_cons_zero, List.set_cons_succ]
          have Bu3 : Hid (Below W.heap.size W (u2.alloc (.cells #[.int .i64 0, .int .i64 0, .int .i64 0] 191))) := bw_alloc (unhide Bu2) _
          have Kqu3 : Hid (Blk (u2.alloc (.cells #[.int .i64 0, .int .i64 0, .int .i64 0] 191)) u2.heap.size [.int .i64 0, .int .i64 0, .int .i64 0]) := Blk.allocAt [.int .i64 0, .int .i64 0, .int .i64 0] rfl
          have Lqu3 : u2.heap.size < (u2.alloc (.cells #[.int .i64 0, .int .i64 0, .int .i64 0] 191)).heap.size := by simp
          have Gq : W.heap.size ≤ u2.heap.size := (unhide Bu2).size
          generalize (u2.alloc (.cells #[.int .i64 0, .int .i64 0, .int .i64 0] 191)) = u3 at *
          (try clear hHeld)
          refine wpTo_ready (rs := [14]) (by kernel_rfl) (by simp) ?_
          refine AllTo.cons (o := _) rfl (fun K hK => ?_) ?_
          · (try simp only [List.getElem_toArray, List.getElem_cons_zero, List.getElem_cons_succ])
            go_simp
            refine hK.out _ _ (fun _ => (unhide KS) _ (bw_alloc (unhide Bu3) _)) ?_
            clear hK K
            try simp only [Act.put, List.getElem_toArray, List.getElem_cons_zero, List.getElem_cons_succ, List.setIfInBounds_toArray, List.set_cons_zero, List.set_cons_succ]
            have Bu4 : Hid (Below W.heap.size W (u3.alloc (.cells #[.int .i64 0, .int .i64 0, .int .i64 0] 191))) := bw_alloc (unhide Bu3) _
            have Kpu4 : Hid (Blk (u3.alloc (.cells #[.int .i64 0, .int .i64 0, .int .i64 0] 191)) u3.heap.size [.int .i64 0, .int .i64 0, .int .i64 0]) := Blk.allocAt [.int .i64 0, .int .i64 0, .int .i64 0] rfl
            have Lpu4 : u3.heap.size < (u3.alloc (.cells #[.int .i64 0, .int .i64 0, .int .i64 0] 191)).heap.size := by simp
            have Gp : W.heap.size ≤ u3.heap.size := (unhide Bu3).size
            have Kqu4 : Hid (Blk (u3.alloc (.cells #[.int .i64 0, .int .i64 0, .int .i64 0] 191)) u2.heap.size [.int .i64 0, .int .i64 0, .int .i64 0]) := (unhide Kqu3).allocOld Lqu3 _
            have Lqu4 : u2.heap.size < (u3.alloc (.cells #[.int .i64 0, .int .i64 0, .int .i64 0] 191)).heap.size := by simp; omega
            have Nqp : u2.heap.size ≠ u3.heap.size := Nat.ne_of_lt Lqu3
            have Npq : u3.heap.size ≠ u2.heap.size := Ne.symm Nqp
            clear Kqu3 Lqu3
            generalize (u3.alloc (.cells #[.int .i64 0, .int .i64 0, .int .i64 0] 191)) = u4 at *
            (try clear hHeld)
            refine wpTo_ready (rs := [16]) (by kernel_rfl) (by simp) ?_
            refine AllTo.cons (o := _) rfl (fun K hK => ?_) ?_
            · (try simp only [List.getElem_toArray, List.getElem_cons_zero, List.getElem_cons_succ])
              have p0 := ((unhide Kpu4) 0 (by simp)).1
              have q0 := ((unhide Kpu4) 0 (by simp)).2
              have p1 := ((unhide Kpu4) 1 (by simp)).1
              have q1 := ((unhide Kpu4) 1 (by simp)).2
              have p2 := ((unhide Kpu4) 2 (by simp)).1
              have q2 := ((unhide Kpu4) 2 (by simp)).2
              go_simp
              refine hK.out _ _ (fun _ => (unhide KS) _ (bw_set (bw_set (bw_set (unhide Bu4) Gp _) Gp _) Gp _)) ?_
              clear hK K
              try simp only [Act.put, List.getElem_toArray, List.getElem_cons_zero, List.getElem_cons_succ, List.setIfInBounds_toArray, List.set_cons_zero, List.set_cons_succ]
              clear p0 q0 p1 q1 p2 q2
              have Bu5 : Hid (Below W.heap.size W (((u4.setCell ⟨u3.heap.size, 0, none⟩ (.int .i64 (lo3 x.wd x.ht x.dp))).setCell ⟨u3.heap.size, 1, none⟩ (.int .i64 (mid3 x.wd x.ht x.dp))).setCell ⟨u3.heap.size, 2, none⟩ (.int .i64 (hi3 x.wd x.ht x.dp)))) := (bw_set (bw_set (bw_set (unhide Bu4) Gp _) Gp _) Gp _)
              have Kpu5 : Hid (Blk (((u4.setCell ⟨u3.heap.size, 0, none⟩ (.int .i64 (lo3 x.wd x.ht x.dp))).setCell ⟨u3.heap.size, 1, none⟩ (.int .i64 (mid3 x.wd x.ht x.dp))).setCell ⟨u3.heap.size, 2, none⟩ (.int .i64 (hi3 x.wd x.ht x.dp))) u3.heap.size [.int .i64 (lo3 x.wd x.ht x.dp), .int .i64 (mid3 x.wd x.ht x.dp), .int .i64 (hi3 x.wd x.ht x.dp)]) := Blk.fill3 (unhide Kpu4)
              have Lpu5 : u3.heap.size < (((u4.setCell ⟨u3.heap.size, 0, none⟩ (.int .i64 (lo3 x.wd x.ht x.dp))).setCell ⟨u3.heap.size, 1, none⟩ (.int .i64 (mid3 x.wd x.ht x.dp))).setCell ⟨u3.heap.size, 2, none⟩ (.int .i64 (hi3 x.wd x.ht x.dp))).heap.size := by simpa using Lpu4
              have Kqu5 : Hid (Blk (((u4.setCell ⟨u3.heap.size, 0, none⟩ (.int .i64 (lo3 x.wd x.ht x.dp))).setCell ⟨u3.heap.size, 1, none⟩ (.int .i64 (mid3 x.wd x.ht x.dp))).setCell ⟨u3.heap.size, 2, none⟩ (.int .i64 (hi3 x.wd x.ht x.dp))) u2.heap.size [.int .i64 0, .int .i64 0, .int .i64 0]) := ((((unhide Kqu4).other Nqp).other Nqp).other Nqp)
              have Lqu5 : u2.heap.size < (((u4.setCell ⟨u3.heap.size, 0, none⟩ (.int .i64 (lo3 x.wd x.ht x.dp))).setCell ⟨u3.heap.size, 1, none⟩ (.int .i64 (mid3 x.wd x.ht x.dp))).setCell ⟨u3.heap.size, 2, none⟩ (.int .i64 (hi3 x.wd x.ht x.dp))).heap.size := by simpa using Lqu4
              clear Kqu4 Lqu4
              clear Kpu4 Lpu4
              generalize (((u4.setCell ⟨u3.heap.size, 0, none⟩ (.int .i64 (lo3 x.wd x.ht x.dp))).setCell ⟨u3.heap.size, 1, none⟩ (.int .i64 (mid3 x.wd x.ht x.dp))).setCell ⟨u3.heap.size, 2, none⟩ (.int .i64 (hi3 x.wd x.ht x.dp))) = u5 at *
              (try clear hHeld)
              refine wpTo_ready (rs := [17]) (by kernel_rfl) (by simp) ?_
              refine AllTo.cons (o := _) rfl (fun K hK => ?_) ?_
              · (try simp only [List.getElem_toArray, List.getElem_cons_zero, List.getElem_cons_succ])
                have p0 := ((unhide Kqu5) 0 (by simp)).1
                have q0 := ((unhide Kqu5) 0 (by simp)).2
                have p1 := ((unhide Kqu5) 1 (by simp)).1
                have q1 := ((unhide Kqu5) 1 (by simp)).2
                have p2 := ((unhide Kqu5) 2 (by simp)).1
                have q2 := ((unhide Kqu5) 2 (by simp)).2
                go_simp
                refine hK.out _ _ (fun _ => (unhide KS) _ (bw_set (bw_set (bw_set (unhide Bu5) Gq _) Gq _) Gq _)) ?_
                clear hK K
                try simp only [Act.put, List.getElem_toArray, List.getElem_cons_zero, List.getElem_cons_succ, List.setIfInBounds_toArray, List.set_cons_zero, List.set_cons_succ]
                clear p0 q0 p1 q1 p2 q2
                have Bu6 : Hid (Below W.heap.size W (((u5.setCell ⟨u2.heap.size, 0, none⟩ (.int .i64 (lo3 t.wd t.ht t.dp))).setCell ⟨u2.heap.size, 1, none⟩ (.int .i64 (mid3 t.wd t.ht t.dp))).setCell ⟨u2.heap.size, 2, none⟩ (.int .i64 (hi3 t.wd t.ht t.dp)))) := (bw_set (bw_set (bw_set (unhide Bu5) Gq _) Gq _) Gq _)
                have Kqu6 : Hid (Blk (((u5.setCell ⟨u2.heap.size, 0, none⟩ (.int .i64 (lo3 t.wd t.ht t.dp))).setCell ⟨u2.heap.size, 1, none⟩ (.int .i64 (mid3 t.wd t.ht t.dp))).setCell ⟨u2.heap.size, 2, none⟩ (.int .i64 (hi3 t.wd t.ht t.dp))) u2.heap.size [.int .i64 (lo3 t.wd t.ht t.dp), .int .i64 (mid3 t.wd t.ht t.dp), .int .i64 (hi3 t.wd t.ht t.dp)]) := Blk.fill3 (unhide Kqu5)
                have Lqu6 : u2.heap.size < (((u5.setCell ⟨u2.heap.size, 0, none⟩ (.int .i64 (lo3 t.wd t.ht t.dp))).setCell ⟨u2.heap.size, 1, none⟩ (.int .i64 (mid3 t.wd t.ht t.dp))).setCell ⟨u2.heap.size, 2, none⟩ (.int .i64 (hi3 t.wd t.ht t.dp))).heap.size := by simpa using Lqu5
                have Kpu6 : Hid (Blk (((u5.setCell ⟨u2.heap.size, 0, none⟩ (.int .i64 (lo3 t.wd t.ht t.dp))).setCell ⟨u2.heap.size, 1, none⟩ (.int .i64 (mid3 t.wd t.ht t.dp))).setCell ⟨u2.heap.size, 2, none⟩ (.int .i64 (hi3 t.wd t.ht t.dp))) u3.heap.size [.int .i64 (lo3 x.wd x.ht x.dp), .int .i64 (mid3 x.wd x.ht x.dp), .int .i64 (hi3 x.wd x.ht x.dp)]) := ((((unhide Kpu5).other Npq).other Npq).other Npq)
                have Lpu6 : u3.heap.size < (((u5.setCell ⟨u2.heap.size, 0, none⟩ (.int .i64 (lo3 t.wd t.ht t.dp))).setCell ⟨u2.heap.size, 1, none⟩ (.int .i64 (mid3 t.wd t.ht t.dp))).setCell ⟨u2.heap.size, 2, none⟩ (.int .i64 (hi3 t.wd t.ht t.dp))).heap.size := by simpa using Lpu5
                clear Kpu5 Lpu5
                clear Kqu5 Lqu5
                generalize (((u5.setCell ⟨u2.heap.size, 0, none⟩ (.int .i64 (lo3 t.wd t.ht t.dp))).setCell ⟨u2.heap.size, 1, none⟩ (.int .i64 (mid3 t.wd t.ht t.dp))).setCell ⟨u2.heap.size, 2, none⟩ (.int .i64 (hi3 t.wd t.ht t.dp))) = u6 at *
                refine wpTo_done (by kernel_rfl) ?_ _
                refine NoPanic.normal ?_
                go_wp2_with fail
                go_meet
                case rel => exact ⟨_, _, rfl, rfl, unhide Kpu6, unhide Kqu6, unhide Bu6⟩
              exact AllTo.nil
            exact AllTo.nil
          exact AllTo.nil
        exact AllTo.nil
      refine AllTo.cons (o := _) rfl (fun K hK => ?_) ?_
      · (try simp only [List.getElem_toArray, List.getElem_cons_zero, List.getElem_cons_succ])
        go_simp
        refine hK.out _ _ (fun _ => (unhide KS) _ (bw_alloc (unhide Bu1) _)) ?_
        clear hK K
        try simp only [Act.put, List.getElem_toArray, List.getElem_cons_zero, List.getElem_cons_succ, List.setIfInBounds_toArray, List.set_cons_zero, List.set_cons_succ]
        have Bu2 : Hid (Below W.heap.size W (u1.alloc (.cells #[.int .i64 0, .int .i64 0, .int .i64 0] 191))) := bw_alloc (unhide Bu1) _
        have Kpu2 : Hid (Blk (u1.alloc (.cells #[.int .i64 0, .int .i64 0, .int .i64 0] 191)) u1.heap.size [.int .i64 0, .int .i64 0, .int .i64 0]) := Blk.allocAt [.int .i64 0, .int .i64 0, .int .i64 0] rfl
        have Lpu2 : u1.heap.size < (u1.alloc (.cells #[.int .i64 0, .int .i64 0, .int .i64 0] 191)).heap.size := by simp
        have Gp : W.heap.size ≤ u1.heap.size := (unhide Bu1).size
        generalize (u1.alloc (.cells #[.int .i64 0, .int .i64 0, .int .i64 0] 191)) = u2 at *
        (try clear hHeld)
        refine wpTo_ready (rs := [13, 15]) (by kernel_rfl) (by simp) ?_
        refine AllTo.cons (o := _) rfl (fun K hK => ?_) ?_
        · (try simp only [List.getElem_toArray, List.getElem_cons_zero, List.getElem_cons_succ])
          go_simp
          refine (sidesUp_any _ _ _ _).mono ?_
          rintro e u3 ⟨rfl, hb⟩
          have Bu3 := hide (bw_call (unhide Bu2) hb)
          have Kpu3 := hide (Blk.below hb Lpu2 (unhide Kpu2))
          have Lpu3 : u1.heap.size < u3.heap.size := Nat.lt_of_lt_of_le Lpu2 hb.size
          clear hb
          go_wp2_with fail
          refine hK.out _ _ (fun _ => (unhide KS) _ (unhide Bu3)) ?_
          clear hK K
          try simp only [Act.put, List.getElem_toArray, List.getElem_cons_zero, List.getElem_cons_succ, List.setIfInBounds_toArray, List.set_cons_zero, List.set_cons_succ]
          clear Kpu2 Lpu2
          (try clear hHeld)
          refine wpTo_ready (rs := [15]) (by kernel_rfl) (by simp) ?_
          refine AllTo.cons (o := _) rfl (fun K hK => ?_) ?_
          · (try simp only [List.getElem_toArray, List.getElem_cons_zero, List.getElem_cons_succ])
            go_simp
            refine hK.out _ _ (fun _ => (unhide KS) _ (bw_alloc (unhide Bu3) _)) ?_
            clear hK K
            try simp only [Act.put, List.getElem_toArray, List.getElem_cons_zero, List.getElem_cons_succ, List.setIfInBounds_toArray, List.set_cons_zero, List.set_cons_succ]
            have Bu4 : Hid (Below W.heap.size W (u3.alloc (.cells #[.int .i64 0, .int .i64 0, .int .i64 0] 191))) := bw_alloc (unhide Bu3) _
            have Kqu4 : Hid (Blk (u3.alloc (.cells #[.int .i64 0, .int .i64 0, .int .i64 0] 191)) u3.heap.size [.int .i64 0, .int .i64 0, .int .i64 0]) := Blk.allocAt [.int .i64 0, .int .i64 0, .int .i64 0] rfl
            have Lqu4 : u3.heap.size < (u3.alloc (.cells #[.int .i64 0, .int .i64 0, .int .i64 0] 191)).heap.size := by simp
            have Gq : W.heap.size ≤ u3.heap.size := (unhide Bu3).size
            have Kpu4 : Hid (Blk (u3.alloc (.cells #[.int .i64 0, .int .i64 0, .int .i64 0] 191)) u1.heap.size [.int .i64 0, .int .i64 0, .int .i64 0]) := (unhide Kpu3).allocOld Lpu3 _
            have Lpu4 : u1.heap.size < (u3.alloc (.cells #[.int .i64 0, .int .i64 0, .int .i64 0] 191)).heap.size := by simp; omega
            have Npq : u1.heap.size ≠ u3.heap.size := Nat.ne_of_lt Lpu3
            have Nqp : u3.heap.size ≠ u1.heap.size := Ne.symm Npq
            clear Kpu3 Lpu3
            generalize (u3.alloc (.cells #[.int .i64 0, .int .i64 0, .int .i64 0] 191)) = u4 at *
            (try clear hHeld)
            refine wpTo_ready (rs := [16]) (by kernel_rfl) (by simp) ?_
            refine AllTo.cons (o := _) rfl (fun K hK => ?_) ?_
            · (try simp only [List.getElem_toArray, List.getElem_cons_zero, List.getElem_cons_succ])
              have p0 := ((unhide Kpu4) 0 (by simp)).1
              have q0 := ((unhide Kpu4) 0 (by simp)).2
              have p1 := ((unhide Kpu4) 1 (by simp)).1
              have q1 := ((unhide Kpu4) 1 (by simp)).2
              have p2 := ((unhide Kpu4) 2 (by simp)).1
              have q2 := ((unhide Kpu4) 2 (by simp)).2
              go_simp
              refine hK.out _ _ (fun _ => (unhide KS) _ (bw_set (bw_set (bw_set (unhide Bu4) Gp _) Gp _) Gp _)) ?_
              clear hK K
              try simp only [Act.put, List.getElem_toArray, List.getElem_cons_zero, List.getElem_cons_succ, List.setIfInBounds_toArray, List.set_cons_zero, List.set_cons_succ]
              clear p0 q0 p1 q1 p2 q2
              have Bu5 : Hid (Below W.heap.size W (((u4.setCell ⟨u1.heap.size, 0, none⟩ (.int .i64 (lo3 x.wd x.ht x.dp))).setCell ⟨u1.heap.size, 1, none⟩ (.int .i64 (mid3 x.wd x.ht x.dp))).setCell ⟨u1.heap.size, 2, none⟩ (.int .i64 (hi3 x.wd x.ht x.dp)))) := (bw_set (bw_set (bw_set (unhide Bu4) Gp _) Gp _) Gp _)
              have Kpu5 : Hid (Blk (((u4.setCell ⟨u1.heap.size, 0, none⟩ (.int .i64 (lo3 x.wd x.ht x.dp))).setCell ⟨u1.heap.size, 1, none⟩ (.int .i64 (mid3 x.wd x.ht x.dp))).setCell ⟨u1.heap.size, 2, none⟩ (.int .i64 (hi3 x.wd x.ht x.dp))) u1.heap.size [.int .i64 (lo3 x.wd x.ht x.dp), .int .i64 (mid3 x.wd x.ht x.dp), .int .i64 (hi3 x.wd x.ht x.dp)]) := Blk.fill3 (unhide Kpu4)
              have Lpu5 : u1.heap.size < (((u4.setCell ⟨u1.heap.size, 0, none⟩ (.int .i64 (lo3 x.wd x.ht x.dp))).setCell ⟨u1.heap.size, 1, none⟩ (.int .i64 (mid3 x.wd x.ht x.dp))).setCell ⟨u1.heap.size, 2, none⟩ (.int .i64 (hi3 x.wd x.ht x.dp))).heap.size := by simpa using Lpu4
              have Kqu5 : Hid (Blk (((u4.setCell ⟨u1.heap.size, 0, none⟩ (.int .i64 (lo3 x.wd x.ht x.dp))).setCell ⟨u1.heap.size, 1, none⟩ (.int .i64 (mid3 x.wd x.ht x.dp))).setCell ⟨u1.heap.size, 2, none⟩ (.int .i64 (hi3 x.wd x.ht x.dp))) u3.heap.size [.int .i64 0, .int .i64 0, .int .i64 0]) := ((((unhide Kqu4).other Nqp).other Nqp).other Nqp)
              have Lqu5 : u3.heap.size < (((u4.setCell ⟨u1.heap.size, 0, none⟩ (.int .i64 (lo3 x.wd x.ht x.dp))).setCell ⟨u1.heap.size, 1, none⟩ (.int .i64 (mid3 x.wd x.ht x.dp))).setCell ⟨u1.heap.size, 2, none⟩ (.int .i64 (hi3 x.wd x.ht x.dp))).heap.size := by simpa using Lqu4
              clear Kqu4 Lqu4
              clear Kpu4 Lpu4
              generalize (((u4.setCell ⟨u1.heap.size, 0, none⟩ (.int .i64 (lo3 x.wd x.ht x.dp))).setCell ⟨u1.heap.size, 1, none⟩ (.int .i64 (mid3 x.wd x.ht x.dp))).setCell ⟨u1.heap.size, 2, none⟩ (.int .i64 (hi3 x.wd x.ht x.dp))) = u5 at *
              (try clear hHeld)
              refine wpTo_ready (rs := [17]) (by kernel_rfl) (by simp) ?_
              refine AllTo.cons (o := _) rfl (fun K hK => ?_) ?_
              · (try simp only [List.getElem_toArray, List.getElem_cons_zero, List.getElem_cons_succ])
                have p0 := ((unhide Kqu5) 0 (by simp)).1
                have q0 := ((unhide Kqu5) 0 (by simp)).2
                have p1 := ((unhide Kqu5) 1 (by simp)).1
                have q1 := ((unhide Kqu5) 1 (by simp)).2
                have p2 := ((unhide Kqu5) 2 (by simp)).1
                have q2 := ((unhide Kqu5) 2 (by simp)).2
                go_simp
                refine hK.out _ _ (fun _ => (unhide KS) _ (bw_set (bw_set (bw_set (unhide Bu5) Gq _) Gq _) Gq _)) ?_
                clear hK K
                try simp only [Act.put, List.getElem_toArray, List.getElem_cons_zero, List.getElem_cons_succ, List.setIfInBounds_toArray, List.set_cons_zero, List.set_cons_succ]
                clear p0 q0 p1 q1 p2 q2
                have Bu6 : Hid (Below W.heap.size W (((u5.setCell ⟨u3.heap.size, 0, none⟩ (.int .i64 (lo3 t.wd t.ht t.dp))).setCell ⟨u3.heap.size, 1, none⟩ (.int .i64 (mid3 t.wd t.ht t.dp))).setCell ⟨u3.heap.size, 2, none⟩ (.int .i64 (hi3 t.wd t.ht t.dp)))) := (bw_set (bw_set (bw_set (unhide Bu5) Gq _) Gq _) Gq _)
                have Kqu6 : Hid (Blk (((u5.setCell ⟨u3.heap.size, 0, none⟩ (.int .i64 (lo3 t.wd t.ht t.dp))).setCell ⟨u3.heap.size, 1, none⟩ (.int .i64 (mid3 t.wd t.ht t.dp))).setCell ⟨u3.heap.size, 2, none⟩ (.int .i64 (hi3 t.wd t.ht t.dp))) u3.heap.size [.int .i64 (lo3 t.wd t.ht t.dp), .int .i64 (mid3 t.wd t.ht t.dp), .int .i64 (hi3 t.wd t.ht t.dp)]) := Blk.fill3 (unhide Kqu5)
                have Lqu6 : u3.heap.size < (((u5.setCell ⟨u3.heap.size, 0, none⟩ (.int .i64 (lo3 t.wd t.ht t.dp))).setCell ⟨u3.heap.size, 1, none⟩ (.int .i64 (mid3 t.wd t.ht t.dp))).setCell ⟨u3.heap.size, 2, none⟩ (.int .i64 (hi3 t.wd t.ht t.dp))).heap.size := by simpa using Lqu5
                have Kpu6 : Hid (Blk (((u5.setCell ⟨u3.heap.size, 0, none⟩ (.int .i64 (lo3 t.wd t.ht t.dp))).setCell ⟨u3.heap.size, 1, none⟩ (.int .i64 (mid3 t.wd t.ht t.dp))).setCell ⟨u3.heap.size, 2, none⟩ (.int .i64 (hi3 t.wd t.ht t.dp))) u1.heap.size [.int .i64 (lo3 x.wd x.ht x.dp), .int .i64 (mid3 x.wd x.ht x.dp), .int .i64 (hi3 x.wd x.ht x.dp)]) := ((((unhide Kpu5).other Npq).other Npq).other Npq)
                have Lpu6 : u1.heap.size < (((u5.setCell ⟨u3.heap.size, 0, none⟩ (.int .i64 (lo3 t.wd t.ht t.dp))).setCell ⟨u3.heap.size, 1, none⟩ (.int .i64 (mid3 t.wd t.ht t.dp))).setCell ⟨u3.heap.size, 2, none⟩ (.int .i64 (hi3 t.wd t.ht t.dp))).heap.size := by simpa using Lpu5
                clear Kpu5 Lpu5
                clear Kqu5 Lqu5
                generalize (((u5.setCell ⟨u3.heap.size, 0, none⟩ (.int .i64 (lo3 t.wd t.ht t.dp))).setCell ⟨u3.heap.size, 1, none⟩ (.int .i64 (mid3 t.wd t.ht t.dp))).setCell ⟨u3.heap.size, 2, none⟩ (.int .i64 (hi3 t.wd t.ht t.dp))) = u6 at *
                refine wpTo_done (by kernel_rfl) ?_ _
                refine NoPanic.normal ?_
                go_wp2_with fail
                go_meet
                case rel => exact ⟨_, _, rfl, rfl, unhide Kpu6, unhide Kqu6, unhide Bu6⟩
              exact AllTo.nil
            exact AllTo.nil
          exact AllTo.nil
        refine AllTo.cons (o := _) rfl (fun K hK => ?_) ?_
        · (try simp only [List.getElem_toArray, List.getElem_cons_zero, List.getElem_cons_succ])
          go_simp
          refine hK.out _ _ (fun _ => (unhide KS) _ (bw_alloc (unhide Bu2) _)) ?_
          clear hK K
          try simp only [Act.put, List.getElem_toArray, List.getElem_cons_zero, List.getElem_cons_succ, List.setIfInBounds_toArray, List.set_cons_zero, List.set_cons_succ]
          have Bu3 : Hid (Below W.heap.size W (u2.alloc (.cells #[.int .i64 0, .int .i64 0, .int .i64 0] 191))) := bw_alloc (unhide Bu2) _
          have Kqu3 : Hid (Blk (u2.alloc (.cells #[.int .i64 0, .int .i64 0, .int .i64 0] 191)) u2.heap.size [.int .i64 0, .int .i64 0, .int .i64 0]) := Blk.allocAt [.int .i64 0, .int .i64 0, .int .i64 0] rfl
          have Lqu3 : u2.heap.size < (u2.alloc (.cells #[.int .i64 0, .int .i64 0, .int .i64 0] 191)).heap.size := by simp
          have Gq : W.heap.size ≤ u2.heap.size := (unhide Bu2).size
          have Kpu3 : Hid (Blk (u2.alloc (.cells #[.int .i64 0, .int .i64 0, .int .i64 0] 191)) u1.heap.size [.int .i64 0, .int .i64 0, .int .i64 0]) := (unhide Kpu2).allocOld Lpu2 _
          have Lpu3 : u1.heap.size < (u2.alloc (.cells #[.int .i64 0, .int .i64 0, .int .i64 0] 191)).heap.size := by simp; omega
          have Npq : u1.heap.size ≠ u2.heap.size := Nat.ne_of_lt Lpu2
          have Nqp : u2.heap.size ≠ u1.heap.size := Ne.symm Npq
          clear Kpu2 Lpu2
          generalize (u2.alloc (.cells #[.int .i64 0, .int .i64 0, .int .i64 0] 191)) = u3 at *
          (try clear hHeld)
          refine wpTo_ready (rs := [13]) (by kernel_rfl) (by simp) ?_
          refine AllTo.cons (o := _) rfl (fun K hK => ?_) ?_
          · (try simp only [List.getElem_toArray, List.getElem_cons_zero, List.getElem_cons_succ])
            go_simp
            refine (sidesUp_any _ _ _ _).mono ?_
            rintro e u4 ⟨rfl, hb⟩
            have Bu4 := hide (bw_call (unhide Bu3) hb)
            have Kpu4 := hide (Blk.below hb Lpu3 (unhide Kpu3))
            have Lpu4 : u1.heap.size < u4.heap.size := Nat.lt_of_lt_of_le Lpu3 hb.size
            have Kqu4 := hide (Blk.below hb Lqu3 (unhide Kqu3))
            have Lqu4 : u2.heap.size < u4.heap.size := Nat.lt_of_lt_of_le Lqu3 hb.size
            clear hb
            go_wp2_with fail
            refine hK.out _ _ (fun _ => (unhide KS) _ (unhide Bu4)) ?_
            clear hK K
            try simp only [Act.put, List.getElem_toArray, List.getElem_cons_zero, List.getElem_cons_succ, List.setIfInBounds_toArray, List.set_cons_zero, List.set_cons_succ]
            clear Kpu3 Lpu3
            clear Kqu3 Lqu3
            (try clear hHeld)
            refine wpTo_ready (rs := [16]) (by kernel_rfl) (by simp) ?_
            refine AllTo.cons (o := _) rfl (fun K hK => ?_) ?_
            · (try simp only [List.getElem_toArray, List.getElem_cons_zero, List.getElem_cons_succ])
              have p0 := ((unhide Kpu4) 0 (by simp)).1
              have q0 := ((unhide Kpu4) 0 (by simp)).2
              have p1 := ((unhide Kpu4) 1 (by simp)).1
              have q1 := ((unhide Kpu4) 1 (by simp)).2
              have p2 := ((unhide Kpu4) 2 (by simp)).1
              have q2 := ((unhide Kpu4) 2 (by simp)).2
              go_simp
              refine hK.out _ _ (fun _ => (unhide KS) _ (bw_set (bw_set (bw_set (unhide Bu4) Gp _) Gp _) Gp _)) ?_
              clear hK K
              try simp only [Act.put, List.getElem_toArray, List.getElem_cons_zero, List.getElem_cons_succ, List.setIfInBounds_toArray, List.set_cons_zero, List.set_cons_succ]
              clear p0 q0 p1 q1 p2 q2
              have Bu5 : Hid (Below W.heap.size W (((u4.setCell ⟨u1.heap.size, 0, none⟩ (.int .i64 (lo3 x.wd x.ht x.dp))).setCell ⟨u1.heap.size, 1, none⟩ (.int .i64 (mid3 x.wd x.ht x.dp))).setCell ⟨u1.heap.size, 2, none⟩ (.int .i64 (hi3 x.wd x.ht x.dp)))) := (bw_set (bw_set (bw_set (unhide Bu4) Gp _) Gp _) Gp _)
              have Kpu5 : Hid (Blk (((u4.setCell ⟨u1.heap.size, 0, none⟩ (.int .i64 (lo3 x.wd x.ht x.dp))).setCell ⟨u1.heap.size, 1, none⟩ (.int .i64 (mid3 x.wd x.ht x.dp))).setCell ⟨u1.heap.size, 2, none⟩ (.int .i64 (hi3 x.wd x.ht x.dp))) u1.heap.size [.int .i64 (lo3 x.wd x.ht x.dp), .int .i64 (mid3 x.wd x.ht x.dp), .int .i64 (hi3 x.wd x.ht x.dp)]) := Blk.fill3 (unhide Kpu4)
              have Lpu5 : u1.heap.size < (((u4.setCell ⟨u1.heap.size, 0, none⟩ (.int .i64 (lo3 x.wd x.ht x.dp))).setCell ⟨u1.heap.size, 1, none⟩ (.int .i64 (mid3 x.wd x.ht x.dp))).setCell ⟨u1.heap.size, 2, none⟩ (.int .i64 (hi3 x.wd x.ht x.dp))).heap.size := by simpa using Lpu4
              have Kqu5 : Hid (Blk (((u4.setCell ⟨u1.heap.size, 0, none⟩ (.int .i64 (lo3 x.wd x.ht x.dp))).setCell ⟨u1.heap.size, 1, none⟩ (.int .i64 (mid3 x.wd x.ht x.dp))).setCell ⟨u1.heap.size, 2, none⟩ (.int .i64 (hi3 x.wd x.ht x.dp))) u2.heap.size [.int .i64 0, .int .i64 0, .int .i64 0]) := ((((unhide Kqu4).other Nqp).other Nqp).other Nqp)
              have Lqu5 : u2.heap.size < (((u4.setCell ⟨u1.heap.size, 0, none⟩ (.int .i64 (lo3 x.wd x.ht x.dp))).setCell ⟨u1.heap.size, 1, none⟩ (.int .i64 (mid3 x.wd x.ht x.dp))).setCell ⟨u1.heap.size, 2, none⟩ (.int .i64 (hi3 x.wd x.ht x.dp))).heap.size := by simpa using Lqu4
              clear Kqu4 Lqu4
              clear Kpu4 Lpu4
              generalize (((u4.setCell ⟨u1.heap.size, 0, none⟩ (.int .i64 (lo3 x.wd x.ht x.dp))).setCell ⟨u1.heap.size, 1, none⟩ (.int .i64 (mid3 x.wd x.ht x.dp))).setCell ⟨u1.heap.size, 2, none⟩ (.int .i64 (hi3 x.wd x.ht x.dp))) = u5 at *
              (try clear hHeld)
              refine wpTo_ready (rs := [17]) (by kernel_rfl) (by simp) ?_
              refine AllTo.cons (o := _) rfl (fun K hK => ?_) ?_
              · (try simp only [List.getElem_toArray, List.getElem_cons_zero, List.getElem_cons_succ])
                have p0 := ((unhide Kqu5) 0 (by simp)).1
                have q0 := ((unhide Kqu5) 0 (by simp)).2
                have p1 := ((unhide Kqu5) 1 (by simp)).1
                have q1 := ((unhide Kqu5) 1 (by simp)).2
                have p2 := ((unhide Kqu5) 2 (by simp)).1
                have q2 := ((unhide Kqu5) 2 (by simp)).2
                go_simp
                refine hK.out _ _ (fun _ => (unhide KS) _ (bw_set (bw_set (bw_set (unhide Bu5) Gq _) Gq _) Gq _)) ?_
                clear hK K
                try simp only [Act.put, List.getElem_toArray, List.getElem_cons_zero, List.getElem_cons_succ, List.setIfInBounds_toArray, List.set_cons_zero, List.set_cons_succ]
                clear p0 q0 p1 q1 p2 q2
                have Bu6 : Hid (Below W.heap.size W (((u5.setCell ⟨u2.heap.size, 0, none⟩ (.int .i64 (lo3 t.wd t.ht t.dp))).setCell ⟨u2.heap.size, 1, none⟩ (.int .i64 (mid3 t.wd t.ht t.dp))).setCell ⟨u2.heap.size, 2, none⟩ (.int .i64 (hi3 t.wd t.ht t.dp)))) := (bw_set (bw_set (bw_set (unhide Bu5) Gq _) Gq _) Gq _)
                have Kqu6 : Hid (Blk (((u5.setCell ⟨u2.heap.size, 0, none⟩ (.int .i64 (lo3 t.wd t.ht t.dp))).setCell ⟨u2.heap.size, 1, none⟩ (.int .i64 (mid3 t.wd t.ht t.dp))).setCell ⟨u2.heap.size, 2, none⟩ (.int .i64 (hi3 t.wd t.ht t.dp))) u2.heap.size [.int .i64 (lo3 t.wd t.ht t.dp), .int .i64 (mid3 t.wd t.ht t.dp), .int .i64 (hi3 t.wd t.ht t.dp)]) := Blk.fill3 (unhide Kqu5)
                have Lqu6 : u2.heap.size < (((u5.setCell ⟨u2.heap.size, 0, none⟩ (.int .i64 (lo3 t.wd t.ht t.dp))).setCell ⟨u2.heap.size, 1, none⟩ (.int .i64 (mid3 t.wd t.ht t.dp))).setCell ⟨u2.heap.size, 2, none⟩ (.int .i64 (hi3 t.wd t.ht t.dp))).heap.size := by simpa using Lqu5
                have Kpu6 : Hid (Blk (((u5.setCell ⟨u2.heap.size, 0, none⟩ (.int .i64 (lo3 t.wd t.ht t.dp))).setCell ⟨u2.heap.size, 1, none⟩ (.int .i64 (mid3 t.wd t.ht t.dp))).setCell ⟨u2.heap.size, 2, none⟩ (.int .i64 (hi3 t.wd t.ht t.dp))) u1.heap.size [.int .i64 (lo3 x.wd x.ht x.dp), .int .i64 (mid3 x.wd x.ht x.dp), .int .i64 (hi3 x.wd x.ht x.dp)]) := ((((unhide Kpu5).other Npq).other Npq).other Npq)
                have Lpu6 : u1.heap.size < (((u5.setCell ⟨u2.heap.size, 0, none⟩ (.int .i64 (lo3 t.wd t.ht t.dp))).setCell ⟨u2.heap.size, 1, none⟩ (.int .i64 (mid3 t.wd t.ht t.dp))).setCell ⟨u2.heap.size, 2, none⟩ (.int .i64 (hi3 t.wd t.ht t.dp))).heap.size := by simpa using Lpu5
                clear Kpu5 Lpu5
                clear Kqu5 Lqu5
                generalize (((u5.setCell ⟨u2.heap.size, 0, none⟩ (.int .i64 (lo3 t.wd t.ht t.dp))).setCell ⟨u2.heap.size, 1, none⟩ (.int .i64 (mid3 t.wd t.ht t.dp))).setCell ⟨u2.heap.size, 2, none⟩ (.int .i64 (hi3 t.wd t.ht t.dp))) = u6 at *
                refine wpTo_done (by kernel_rfl) ?_ _
                refine NoPanic.normal ?_
                go_wp2_with fail
                go_meet
                case rel => exact ⟨_, _, rfl, rfl, unhide Kpu6, unhide Kqu6, unhide Bu6⟩
              exact AllTo.nil
            exact AllTo.nil
          exact AllTo.nil
        exact AllTo.nil
      refine AllTo.cons (o := _) rfl (fun K hK => ?_) ?_
      · (try simp only [List.getElem_toArray, List.getElem_cons_zero, List.getElem_cons_succ])
        go_simp
        refine hK.out _ _ (fun _ => (unhide KS) _ (bw_alloc (unhide Bu1) _)) ?_
        clear hK K
        try simp only [Act.put, List.getElem_toArray, List.getElem_cons_zero, List.getElem_cons_succ, List.setIfInBounds_toArray, List.set_cons_zero, List.set_cons_succ]
        have Bu2 : Hid (Below W.heap.size W (u1.alloc (.cells #[.int .i64 0, .int .i64 0, .int .i64 0] 191))) := bw_alloc (unhide Bu1) _
        have Kqu2 : Hid (Blk (u1.alloc (.cells #[.int .i64 0, .int .i64 0, .int .i64 0] 191)) u1.heap.size [.int .i64 0, .int .i64 0, .int .i64 0]) := Blk.allocAt [.int .i64 0, .int .i64 0, .int .i64 0] rfl
        have Lqu2 : u1.heap.size < (u1.alloc (.cells #[.int .i64 0, .int .i64 0, .int .i64 0] 191)).heap.size := by simp
        have Gq : W.heap.size ≤ u1.heap.size := (unhide Bu1).size
        generalize (u1.alloc (.cells #[.int .i64 0, .int .i64 0, .int .i64 0] 191)) = u2 at *
        (try clear hHeld)
        refine wpTo_ready (rs := [13, 14]) (by kernel_rfl) (by simp) ?_
        refine AllTo.cons (o := _) rfl (fun K hK => ?_) ?_
        · (try simp only [List.getElem_toArray, List.getElem_cons_zero, List.getElem_cons_succ])
          go_simp
          refine (sidesUp_any _ _ _ _).mono ?_
          rintro e u3 ⟨rfl, hb⟩
          have Bu3 := hide (bw_call (unhide Bu2) hb)
          have Kqu3 := hide (Blk.below hb Lqu2 (unhide Kqu2))
          have Lqu3 : u1.heap.size < u3.heap.size := Nat.lt_of_lt_of_le Lqu2 hb.size
          clear hb
          go_wp2_with fail
          refine hK.out _ _ (fun _ => (unhide KS) _ (unhide Bu3)) ?_
          clear hK K
          try simp only [Act.put, List.getElem_toArray, List.getElem_cons_zero, List.getElem_cons_succ, List.setIfInBounds_toArray, List.set_cons_zero, List.set_cons_succ]
          clear Kqu2 Lqu2
          (try clear hHeld)
          refine wpTo_ready (rs := [14]) (by kernel_rfl) (by simp) ?_
          refine AllTo.cons (o := _) rfl (fun K hK => ?_) ?_
          · (try simp only [List.getElem_toArray, List.getElem_cons_zero, List.getElem_cons_succ])
            go_simp
            refine hK.out _ _ (fun _ => (unhide KS) _ (bw_alloc (unhide Bu3) _)) ?_
            clear hK K
            try simp only [Act.put, List.getElem_toArray, List.getElem_cons_zero, List.getElem_cons_succ, List.setIfInBounds_toArray, List.set_cons_zero, List.set_cons_succ]
            have Bu4 : Hid (Below W.heap.size W (u3.alloc (.cells #[.int .i64 0, .int .i64 0, .int .i64 0] 191))) := bw_alloc (unhide Bu3) _
            have Kpu4 : Hid (Blk (u3.alloc (.cells #[.int .i64 0, .int .i64 0, .int .i64 0] 191)) u3.heap.size [.int .i64 0, .int .i64 0, .int .i64 0]) := Blk.allocAt [.int .i64 0, .int .i64 0, .int .i64 0] rfl
            have Lpu4 : u3.heap.size < (u3.alloc (.cells #[.int .i64 0, .int .i64 0, .int .i64 0] 191)).heap.size := by simp
            have Gp : W.heap.size ≤ u3.heap.size := (unhide Bu3).size
            have Kqu4 : Hid (Blk (u3.alloc (.cells #[.int .i64 0, .int .i64 0, .int .i64 0] 191)) u1.heap.size [.int .i64 0, .int .i64 0, .int .i64 0]) := (unhide Kqu3).allocOld Lqu3 _
            have Lqu4 : u1.heap.size < (u3.alloc (.cells #[.int .i64 0, .int .i64 0, .int .i64 0] 191)).heap.size := by simp; omega
            have Nqp : u1.heap.size ≠ u3.heap.size := Nat.ne_of_lt Lqu3
            have Npq : u3.heap.size ≠ u1.heap.size := Ne.symm Nqp
            clear Kqu3 Lqu3
            generalize (u3.alloc (.cells #[.int .i64 0, .int .i64 0, .int .i64 0] 191)) = u4 at *
            (try clear hHeld)
            refine wpTo_ready (rs := [16]) (by kernel_rfl) (by simp) ?_
            refine AllTo.cons (o := _) rfl (fun K hK => ?_) ?_
            · (try simp only [List.getElem_toArray, List.getElem_cons_zero, List.getElem_cons_succ])
              have p0 := ((unhide Kpu4) 0 (by simp)).1
              have q0 := ((unhide Kpu4) 0 (by simp)).2
              have p1 := ((unhide Kpu4) 1 (by simp)).1
              have q1 := ((unhide Kpu4) 1 (by simp)).2
              have p2 := ((unhide Kpu4) 2 (by simp)).1
              have q2 := ((unhide Kpu4) 2 (by simp)).2
              go_simp
              refine hK.out _ _ (fun _ => (unhide KS) _ (bw_set (bw_set (bw_set (unhide Bu4) Gp _) Gp _) Gp _)) ?_
              clear hK K
              try simp only [Act.put, List.getElem_toArray, List.getElem_cons_zero, List.getElem_cons_succ, List.setIfInBounds_toArray, List.set_cons_zero, List.set_cons_succ]
              clear p0 q0 p1 q1 p2 q2
              have Bu5 : Hid (Below W.heap.size W (((u4.setCell ⟨u3.heap.size, 0, none⟩ (.int .i64 (lo3 x.wd x.ht x.dp))).setCell ⟨u3.heap.size, 1, none⟩ (.int .i64 (mid3 x.wd x.ht x.dp))).setCell ⟨u3.heap.size, 2, none⟩ (.int .i64 (hi3 x.wd x.ht x.dp)))) := (bw_set (bw_set (bw_set (unhide Bu4) Gp _) Gp _) Gp _)
              have Kpu5 : Hid (Blk (((u4.setCell ⟨u3.heap.size, 0, none⟩ (.int .i64 (lo3 x.wd x.ht x.dp))).setCell ⟨u3.heap.size, 1, none⟩ (.int .i64 (mid3 x.wd x.ht x.dp))).setCell ⟨u3.heap.size, 2, none⟩ (.int .i64 (hi3 x.wd x.ht x.dp))) u3.heap.size [.int .i64 (lo3 x.wd x.ht x.dp), .int .i64 (mid3 x.wd x.ht x.dp), .int .i64 (hi3 x.wd x.ht x.dp)]) := Blk.fill3 (unhide Kpu4)
              have Lpu5 : u3.heap.size < (((u4.setCell ⟨u3.heap.size, 0, none⟩ (.int .i64 (lo3 x.wd x.ht x.dp))).setCell ⟨u3.heap.size, 1, none⟩ (.int .i64 (mid3 x.wd x.ht x.dp))).setCell ⟨u3.heap.size, 2, none⟩ (.int .i64 (hi3 x.wd x.ht x.dp))).heap.size := by simpa using Lpu4
              have Kqu5 : Hid (Blk (((u4.setCell ⟨u3.heap.size, 0, none⟩ (.int .i64 (lo3 x.wd x.ht x.dp))).setCell ⟨u3.heap.size, 1, none⟩ (.int .i64 (mid3 x.wd x.ht x.dp))).setCell ⟨u3.heap.size, 2, none⟩ (.int .i64 (hi3 x.wd x.ht x.dp))) u1.heap.size [.int .i64 0, .int .i64 0, .int .i64 0]) := ((((unhide Kqu4).other Nqp).other Nqp).other Nqp)
              have Lqu5 : u1.heap.size < (((u4.setCell ⟨u3.heap.size, 0, none⟩ (.int .i64 (lo3 x.wd x.ht x.dp))).setCell ⟨u3.heap.size, 1, none⟩ (.int .i64 (mid3 x.wd x.ht x.dp))).setCell ⟨u3.heap.size, 2, none⟩ (.int .i64 (hi3 x.wd x.ht x.dp))).heap.size := by simpa using Lqu4
              clear Kqu4 Lqu4
              clear Kpu4 Lpu4
              generalize (((u4.setCell ⟨u3.heap.size, 0, none⟩ (.int .i64 (lo3 x.wd x.ht x.dp))).setCell ⟨u3.heap.size, 1, none⟩ (.int .i64 (mid3 x.wd x.ht x.dp))).setCell ⟨u3.heap.size, 2, none⟩ (.int .i64 (hi3 x.wd x.ht x.dp))) = u5 at *
              (try clear hHeld)
              refine wpTo_ready (rs := [17]) (by kernel_rfl) (by simp) ?_
              refine AllTo.cons (o := _) rfl (fun K hK => ?_) ?_
              · (try simp only [List.getElem_toArray, List.getElem_cons_zero, List.getElem_cons_succ])
                have p0 := ((unhide Kqu5) 0 (by simp)).1
                have q0 := ((unhide Kqu5) 0 (by simp)).2
                have p1 := ((unhide Kqu5) 1 (by simp)).1
                have q1 := ((unhide Kqu5) 1 (by simp)).2
                have p2 := ((unhide Kqu5) 2 (by simp)).1
                have q2 := ((unhide Kqu5) 2 (by simp)).2
                go_simp
                refine hK.out _ _ (fun _ => (unhide KS) _ (bw_set (bw_set (bw_set (unhide Bu5) Gq _) Gq _) Gq _)) ?_
                clear hK K
                try simp only [Act.put, List.getElem_toArray, List.getElem_cons_zero, List.getElem_cons_succ, List.setIfInBounds_toArray, List.set_cons_zero, List.set_cons_succ]
                clear p0 q0 p1 q1 p2 q2
                have Bu6 : Hid (Below W.heap.size W (((u5.setCell ⟨u1.heap.size, 0, none⟩ (.int .i64 (lo3 t.wd t.ht t.dp))).setCell ⟨u1.heap.size, 1, none⟩ (.int .i64 (mid3 t.wd t.ht t.dp))).setCell ⟨u1.heap.size, 2, none⟩ (.int .i64 (hi3 t.wd t.ht t.dp)))) := (bw_set (bw_set (bw_set (unhide Bu5) Gq _) Gq _) Gq _)
                have Kqu6 : Hid (Blk (((u5.setCell ⟨u1.heap.size, 0, none⟩ (.int .i64 (lo3 t.wd t.ht t.dp))).setCell ⟨u1.heap.size, 1, none⟩ (.int .i64 (mid3 t.wd t.ht t.dp))).setCell ⟨u1.heap.size, 2, none⟩ (.int .i64 (hi3 t.wd t.ht t.dp))) u1.heap.size [.int .i64 (lo3 t.wd t.ht t.dp), .int .i64 (mid3 t.wd t.ht t.dp), .int .i64 (hi3 t.wd t.ht t.dp)]) := Blk.fill3 (unhide Kqu5)
                have Lqu6 : u1.heap.size < (((u5.setCell ⟨u1.heap.size, 0, none⟩ (.int .i64 (lo3 t.wd t.ht t.dp))).setCell ⟨u1.heap.size, 1, none⟩ (.int .i64 (mid3 t.wd t.ht t.dp))).setCell ⟨u1.heap.size, 2, none⟩ (.int .i64 (hi3 t.wd t.ht t.dp))).heap.size := by simpa using Lqu5
                have Kpu6 : Hid (Blk (((u5.setCell ⟨u1.heap.size, 0, none⟩ (.int .i64 (lo3 t.wd t.ht t.dp))).setCell ⟨u1.heap.size, 1, none⟩ (.int .i64 (mid3 t.wd t.ht t.dp))).setCell ⟨u1.heap.size, 2, none⟩ (.int .i64 (hi3 t.wd t.ht t.dp))) u3.heap.size [.int .i64 (lo3 x.wd x.ht x.dp), .int .i64 (mid3 x.wd x.ht x.dp), .int .i64 (hi3 x.wd x.ht x.dp)]) := ((((unhide Kpu5).other Npq).other Npq).other Npq)
                have Lpu6 : u3.heap.size < (((u5.setCell ⟨u1.heap.size, 0, none⟩ (.int .i64 (lo3 t.wd t.ht t.dp))).setCell ⟨u1.heap.size, 1, none⟩ (.int .i64 (mid3 t.wd t.ht t.dp))).setCell ⟨u1.heap.size, 2, none⟩ (.int .i64 (hi3 t.wd t.ht t.dp))).heap.size := by simpa using Lpu5
                clear Kpu5 Lpu5
                clear Kqu5 Lqu5
                generalize (((u5.setCell ⟨u1.heap.size, 0, none⟩ (.int .i64 (lo3 t.wd t.ht t.dp))).setCell ⟨u1.heap.size, 1, none⟩ (.int .i64 (mid3 t.wd t.ht t.dp))).setCell ⟨u1.heap.size, 2, none⟩ (.int .i64 (hi3 t.wd t.ht t.dp))) = u6 at *
                refine wpTo_done (by kernel_rfl) ?_ _
                refine NoPanic.normal ?_
                go_wp2_with fail
                go_meet
                case rel => exact ⟨_, _, rfl, rfl, unhide Kpu6, unhide Kqu6, unhide Bu6⟩
              exact AllTo.nil
            exact AllTo.nil
          exact AllTo.nil
        refine AllTo.cons (o := _) rfl (fun K hK => ?_) ?_
        · (try simp only [List.getElem_toArray, List.getElem_cons_zero, List.getElem_cons_succ])
          go_simp
          refine hK.out _ _ (fun _ => (unhide KS) _ (bw_alloc (unhide Bu2) _)) ?_
          clear hK K
          try simp only [Act.put, List.getElem_toArray, List.getElem_cons_zero, List.getElem_cons_succ, List.setIfInBounds_toArray, List.set_cons_zero, List.set_cons_succ]
          have Bu3 : Hid (Below W.heap.size W (u2.alloc (.cells #[.int .i64 0, .int .i64 0, .int .i64 0] 191))) := bw_alloc (unhide Bu2) _
          have Kpu3 : Hid (Blk (u2.alloc (.cells #[.int .i64 0, .int .i64 0, .int .i64 0] 191)) u2.heap.size [.int .i64 0, .int .i64 0, .int .i64 0]) := Blk.allocAt [.int .i64 0, .int .i64 0, .int .i64 0] rfl
          have Lpu3 : u2.heap.size < (u2.alloc (.cells #[.int .i64 0, .int .i64 0, .int .i64 0] 191)).heap.size := by simp
          have Gp : W.heap.size ≤ u2.heap.size := (unhide Bu2).size
          have Kqu3 : Hid (Blk (u2.alloc (.cells #[.int .i64 0, .int .i64 0, .int .i64 0] 191)) u1.heap.size [.int .i64 0, .int .i64 0, .int .i64 0]) := (unhide Kqu2).allocOld Lqu2 _
          have Lqu3 : u1.heap.size < (u2.alloc (.cells #[.int .i64 0, .int .i64 0, .int .i64 0] 191)).heap.size := by simp; omega
          have Nqp : u1.heap.size ≠ u2.heap.size := Nat.ne_of_lt Lqu2
          have Npq : u2.heap.size ≠ u1.heap.size := Ne.symm Nqp
          clear Kqu2 Lqu2
          generalize (u2.alloc (.cells #[.int .i64 0, .int .i64 0, .int .i64 0] 191)) = u3 at *
          (try clear hHeld)
          refine wpTo_ready (rs := [13]) (by kernel_rfl) (by simp) ?_
          refine AllTo.cons (o := _) rfl (fun K hK => ?_) ?_
          · (try simp only [List.getElem_toArray, List.getElem_cons_zero, List.getElem_cons_succ])
            go_simp
            refine (sidesUp_any _ _ _ _).mono ?_
            rintro e u4 ⟨rfl, hb⟩
            have Bu4 := hide (bw_call (unhide Bu3) hb)
            have Kqu4 := hide (Blk.below hb Lqu3 (unhide Kqu3))
            have Lqu4 : u1.heap.size < u4.heap.size := Nat.lt_of_lt_of_le Lqu3 hb.size
            have Kpu4 := hide (Blk.below hb Lpu3 (unhide Kpu3))
            have Lpu4 : u2.heap.size < u4.heap.size := Nat.lt_of_lt_of_le Lpu3 hb.size
            clear hb
            go_wp2_with fail
            refine hK.out _ _ (fun _ => (unhide KS) _ (unhide Bu4)) ?_
            clear hK K
            try simp only [Act.put, List.getElem_toArray, List.getElem_cons_zero, List.getElem_cons_succ, List.setIfInBounds_toArray, List.set_cons_zero, List.set_cons_succ]
            clear Kqu3 Lqu3
            clear Kpu3 Lpu3
            (try clear hHeld)
            refine wpTo_ready (rs := [16]) (by kernel_rfl) (by simp) ?_
            refine AllTo.cons (o := _) rfl (fun K hK => ?_) ?_
            · (try simp only [List.getElem_toArray, List.getElem_cons_zero, List.getElem_cons_succ])
              have p0 := ((unhide Kpu4) 0 (by simp)).1
              have q0 := ((unhide Kpu4) 0 (by simp)).2
              have p1 := ((unhide Kpu4) 1 (by simp)).1
              have q1 := ((unhide Kpu4) 1 (by simp)).2
              have p2 := ((unhide Kpu4) 2 (by simp)).1
              have q2 := ((unhide Kpu4) 2 (by simp)).2
              go_simp
              refine hK.out _ _ (fun _ => (unhide KS) _ (bw_set (bw_set (bw_set (unhide Bu4) Gp _) Gp _) Gp _)) ?_
              clear hK K
              try simp only [Act.put, List.getElem_toArray, List.getElem_cons_zero, List.getElem_cons_succ, List.setIfInBounds_toArray, List.set_cons_zero, List.set_cons_succ]
              clear p0 q0 p1 q1 p2 q2
              have Bu5 : Hid (Below W.heap.size W (((u4.setCell ⟨u2.heap.size, 0, none⟩ (.int .i64 (lo3 x.wd x.ht x.dp))).setCell ⟨u2.heap.size, 1, none⟩ (.int .i64 (mid3 x.wd x.ht x.dp))).setCell ⟨u2.heap.size, 2, none⟩ (.int .i64 (hi3 x.wd x.ht x.dp)))) := (bw_set (bw_set (bw_set (unhide Bu4) Gp _) Gp _) Gp _)
              have Kpu5 : Hid (Blk (((u4.setCell ⟨u2.heap.size, 0, none⟩ (.int .i64 (lo3 x.wd x.ht x.dp))).setCell ⟨u2.heap.size, 1, none⟩ (.int .i64 (mid3 x.wd x.ht x.dp))).setCell ⟨u2.heap.size, 2, none⟩ (.int .i64 (hi3 x.wd x.ht x.dp))) u2.heap.size [.int .i64 (lo3 x.wd x.ht x.dp), .int .i64 (mid3 x.wd x.ht x.dp), .int .i64 (hi3 x.wd x.ht x.dp)]) := Blk.fill3 (unhide Kpu4)
              have Lpu5 : u2.heap.size < (((u4.setCell ⟨u2.heap.size, 0, none⟩ (.int .i64 (lo3 x.wd x.ht x.dp))).setCell ⟨u2.heap.size, 1, none⟩ (.int .i64 (mid3 x.wd x.ht x.dp))).setCell ⟨u2.heap.size, 2, none⟩ (.int .i64 (hi3 x.wd x.ht x.dp))).heap.size := by simpa using Lpu4
              have Kqu5 : Hid (Blk (((u4.setCell ⟨u2.heap.size, 0, none⟩ (.int .i64 (lo3 x.wd x.ht x.dp))).setCell ⟨u2.heap.size, 1, none⟩ (.int .i64 (mid3 x.wd x.ht x.dp))).setCell ⟨u2.heap.size, 2, none⟩ (.int .i64 (hi3 x.wd x.ht x.dp))) u1.heap.size [.int .i64 0, .int .i64 0, .int .i64 0]) := ((((unhide Kqu4).other Nqp).other Nqp).other Nqp)
              have Lqu5 : u1.heap.size < (((u4.setCell ⟨u2.heap.size, 0, none⟩ (.int .i64 (lo3 x.wd x.ht x.dp))).setCell ⟨u2.heap.size, 1, none⟩ (.int .i64 (mid3 x.wd x.ht x.dp))).setCell ⟨u2.heap.size, 2, none⟩ (.int .i64 (hi3 x.wd x.ht x.dp))).heap.size := by simpa using Lqu4
              clear Kqu4 Lqu4
              clear Kpu4 Lpu4
              generalize (((u4.setCell ⟨u2.heap.size, 0, none⟩ (.int .i64 (lo3 x.wd x.ht x.dp))).setCell ⟨u2.heap.size, 1, none⟩ (.int .i64 (mid3 x.wd x.ht x.dp))).setCell ⟨u2.heap.size, 2, none⟩ (.int .i64 (hi3 x.wd x.ht x.dp))) = u5 at *
              (try clear hHeld)
              refine wpTo_ready (rs := [17]) (by kernel_rfl) (by simp) ?_
              refine AllTo.cons (o := _) rfl (fun K hK => ?_) ?_
              · (try simp only [List.getElem_toArray, List.getElem_cons_zero, List.getElem_cons_succ])
                have p0 := ((unhide Kqu5) 0 (by simp)).1
                have q0 := ((unhide Kqu5) 0 (by simp)).2
                have p1 := ((unhide Kqu5) 1 (by simp)).1
                have q1 := ((unhide Kqu5) 1 (by simp)).2
                have p2 := ((unhide Kqu5) 2 (by simp)).1
                have q2 := ((unhide Kqu5) 2 (by simp)).2
                go_simp
                refine hK.out _ _ (fun _ => (unhide KS) _ (bw_set (bw_set (bw_set (unhide Bu5) Gq _) Gq _) Gq _)) ?_
                clear hK K
                try simp only [Act.put, List.getElem_toArray, List.getElem_cons_zero, List.getElem_cons_succ, List.setIfInBounds_toArray, List.set_cons_zero, List.set_cons_succ]
                clear p0 q0 p1 q1 p2 q2
                have Bu6 : Hid (Below W.heap.size W (((u5.setCell ⟨u1.heap.size, 0, none⟩ (.int .i64 (lo3 t.wd t.ht t.dp))).setCell ⟨u1.heap.size, 1, none⟩ (.int .i64 (mid3 t.wd t.ht t.dp))).setCell ⟨u1.heap.size, 2, none⟩ (.int .i64 (hi3 t.wd t.ht t.dp)))) := (bw_set (bw_set (bw_set (unhide Bu5) Gq _) Gq _) Gq _)
                have Kqu6 : Hid (Blk (((u5.setCell ⟨u1.heap.size, 0, none⟩ (.int .i64 (lo3 t.wd t.ht t.dp))).setCell ⟨u1.heap.size, 1, none⟩ (.int .i64 (mid3 t.wd t.ht t.dp))).setCell ⟨u1.heap.size, 2, none⟩ (.int .i64 (hi3 t.wd t.ht t.dp))) u1.heap.size [.int .i64 (lo3 t.wd t.ht t.dp), .int .i64 (mid3 t.wd t.ht t.dp), .int .i64 (hi3 t.wd t.ht t.dp)]) := Blk.fill3 (unhide Kqu5)
                have Lqu6 : u1.heap.size < (((u5.setCell ⟨u1.heap.size, 0, none⟩ (.int .i64 (lo3 t.wd t.ht t.dp))).setCell ⟨u1.heap.size, 1, none⟩ (.int .i64 (mid3 t.wd t.ht t.dp))).setCell ⟨u1.heap.size, 2, none⟩ (.int .i64 (hi3 t.wd t.ht t.dp))).heap.size := by simpa using Lqu5
                have Kpu6 : Hid (Blk (((u5.setCell ⟨u1.heap.size, 0, none⟩ (.int .i64 (lo3 t.wd t.ht t.dp))).setCell ⟨u1.heap.size, 1, none⟩ (.int .i64 (mid3 t.wd t.ht t.dp))).setCell ⟨u1.heap.size, 2, none⟩ (.int .i64 (hi3 t.wd t.ht t.dp))) u2.heap.size [.int .i64 (lo3 x.wd x.ht x.dp), .int .i64 (mid3 x.wd x.ht x.dp), .int .i64 (hi3 x.wd x.ht x.dp)]) := ((((unhide Kpu5).other Npq).other Npq).other Npq)
                have Lpu6 : u2.heap.size < (((u5.setCell ⟨u1.heap.size, 0, none⟩ (.int .i64 (lo3 t.wd t.ht t.dp))).setCell ⟨u1.heap.size, 1, none⟩ (.int .i64 (mid3 t.wd t.ht t.dp))).setCell ⟨u1.heap.size, 2, none⟩ (.int .i64 (hi3 t.wd t.ht t.dp))).heap.size := by simpa using Lpu5
                clear Kpu5 Lpu5
                clear Kqu5 Lqu5
                generalize (((u5.setCell ⟨u1.heap.size, 0, none⟩ (.int .i64 (lo3 t.wd t.ht t.dp))).setCell ⟨u1.heap.size, 1, none⟩ (.int .i64 (mid3 t.wd t.ht t.dp))).setCell ⟨u1.heap.size, 2, none⟩ (.int .i64 (hi3 t.wd t.ht t.dp))) = u6 at *
                refine wpTo_done (by kernel_rfl) ?_ _
                refine NoPanic.normal ?_
                go_wp2_with fail
                go_meet
                case rel => exact ⟨_, _, rfl, rfl, unhide Kpu6, unhide Kqu6, unhide Bu6⟩
              exact AllTo.nil
            exact AllTo.nil
          exact AllTo.nil
        exact AllTo.nil
      exact AllTo.nil
    refine AllTo.cons (o := _) rfl (fun K hK => ?_) ?_
    · (try simp only [List.getElem_toArray, List.getElem_cons_zero, List.getElem_cons_succ])
      go_simp
      refine hK.out _ _ (fun _ => (unhide KS) _ (bw_alloc (unhide Bu0) _)) ?_
      clear hK K
      try simp only [Act.put, List.getElem_toArray, List.getElem_cons_zero, List.getElem_cons_succ, List.setIfInBounds_toArray, List.set_cons_zero, List.set_cons_succ]
      have Bu1 : Hid (Below W.heap.size W (u0.alloc (.cells #[.int .i64 0, .int .i64 0, .int .i64 0] 191))) := bw_alloc (unhide Bu0) _
      have Kpu1 : Hid (Blk (u0.alloc (.cells #[.int .i64 0, .int .i64 0, .int .i64 0] 191)) u0.heap.size [.int .i64 0, .int .i64 0, .int .i64 0]) := Blk.allocAt [.int .i64 0, .int .i64 0, .int .i64 0] rfl
      have Lpu1 : u0.heap.size < (u0.alloc (.cells #[.int .i64 0, .int .i64 0, .int .i64 0] 191)).heap.size := by simp
      have Gp : W.heap.size ≤ u0.heap.size := (unhide Bu0).size
      generalize (u0.alloc (.cells #[.int .i64 0, .int .i64 0, .int .i64 0] 191)) = u1 at *
      (try clear hHeld)
      refine wpTo_ready (rs := [6, 15]) (by kernel_rfl) (by simp) ?_
      refine AllTo.cons (o := _) rfl (fun K hK => ?_) ?_
      · (try simp only [List.getElem_toArray, List.getElem_cons_zero, List.getElem_cons_succ])
        go_simp
        refine (sidesUp_any _ _ _ _).mono ?_
        rintro e u2 ⟨rfl, hb⟩
        have Bu2 := hide (bw_call (unhide Bu1) hb)
        have Kpu2 := hide (Blk.below hb Lpu1 (unhide Kpu1))
        have Lpu2 : u0.heap.size < u2.heap.size := Nat.lt_of_lt_of_le Lpu1 hb.size
        clear hb
        go_wp2_with fail
        refine hK.out _ _ (fun _ => (unhide KS) _ (unhide Bu2)) ?_
        clear hK K
        try simp only [Act.put, List.getElem_toArray, List.getElem_cons_zero, List.getElem_cons_succ, List.setIfInBounds_toArray, List.set_cons_zero, List.set_cons_succ]
        clear Kpu1 Lpu1
        (try clear hHeld)
        refine wpTo_ready (rs := [13, 15]) (by kernel_rfl) (by simp) ?_
        refine AllTo.cons (o := _) rfl (fun K hK => ?_) ?_
        · (try simp only [List.getElem_toArray, List.getElem_cons_zero, List.getElem_cons_succ])
          go_simp
          refine (sidesUp_any _ _ _ _).mono ?_
          rintro e u3 ⟨rfl, hb⟩
          have Bu3 := hide (bw_call (unhide Bu2) hb)
          have Kpu3 := hide (Blk.below hb Lpu2 (unhide Kpu2))
          have Lpu3 : u0.heap.size < u3.heap.size := Nat.lt_of_lt_of_le Lpu2 hb.size
          clear hb
          go_wp2_with fail
          refine hK.out _ _ (fun _ => (unhide KS) _ (unhide Bu3)) ?_
          clear hK K
          try simp only [Act.put, List.getElem_toArray, List.getElem_cons_zero, List.getElem_cons_succ, List.setIfInBounds_toArray, List.set_cons_zero, List.set_cons_succ]
          clear Kpu2 Lpu2
          (try clear hHeld)
          refine wpTo_ready (rs := [15]) (by kernel_rfl) (by simp) ?_
          refine AllTo.cons (o := _) rfl (fun K hK => ?_) ?_
          · (try simp only [List.getElem_toArray, List.getElem_cons_zero, List.getElem_cons_succ])
            go_simp
            refine hK.out _ _ (fun _ => (unhide KS) _ (bw_alloc (unhide Bu3) _)) ?_
            clear hK K
            try simp only [Act.put, List.getElem_toArray, List.getElem_cons_zero, List.getElem_cons_succ, List.setIfInBounds_toArray, List.set_cons_zero, List.set_cons_succ]
            have Bu4 : Hid (Below W.heap.size W (u3.alloc (.cells #[.int .i64 0, .int .i64 0, .int .i64 0] 191))) := bw_alloc (unhide Bu3) _
            have Kqu4 : Hid (Blk (u3.alloc (.cells #[.int .i64 0, .int .i64 0, .int .i64 0] 191)) u3.heap.size [.int .i64 0, .int .i64 0, .int .i64 0]) := Blk.allocAt [.int .i64 0, .int .i64 0, .int .i64 0] rfl
            have Lqu4 : u3.heap.size < (u3.alloc (.cells #[.int .i64 0, .int .i64 0, .int .i64 0] 191)).heap.size := by simp
            have Gq : W.heap.size ≤ u3.heap.size := (unhide Bu3).size
            have Kpu4 : Hid (Blk (u3.alloc (.cells #[.int .i64 0, .int .i64 0, .int .i64 0] 191)) u0.heap.size [.int .i64 0, .int .i64 0, .int .i64 0]) := (unhide Kpu3).allocOld Lpu3 _
            have Lpu4 : u0.heap.size < (u3.alloc (.cells #[.int .i64 0, .int .i64 0, .int .i64 0] 191)).heap.size := by simp; omega
            have Npq : u0.heap.size ≠ u3.heap.size := Nat.ne_of_lt Lpu3
            have Nqp : u3.heap.size ≠ u0.heap.size := Ne.symm Npq
            clear Kpu3 Lpu3
            generalize (u3.alloc (.cells #[.int .i64 0, .int .i64 0, .int .i64 0] 191)) = u4 at *
            (try clear hHeld)
            refine wpTo_ready (rs := [16]) (by kernel_rfl) (by simp) ?_
            refine AllTo.cons (o := _) rfl (fun K hK => ?_) ?_
            · (try simp only [List.getElem_toArray, List.getElem_cons_zero, List.getElem_cons_succ])
              have p0 := ((unhide Kpu4) 0 (by simp)).1
              have q0 := ((unhide Kpu4) 0 (by simp)).2
              have p1 := ((unhide Kpu4) 1 (by simp)).1
              have q1 := ((unhide Kpu4) 1 (by simp)).2
              have p2 := ((unhide Kpu4) 2 (by simp)).1
              have q2 := ((unhide Kpu4) 2 (by simp)).2
              go_simp
              refine hK.out _ _ (fun _ => (unhide KS) _ (bw_set (bw_set (bw_set (unhide Bu4) Gp _) Gp _) Gp _)) ?_
              clear hK K
              try simp only [Act.put, List.getElem_toArray, List.getElem_cons_zero, List.getElem_cons_succ, List.setIfInBounds_toArray, List.set_cons_zero, List.set_cons_succ]
              clear p0 q0 p1 q1 p2 q2
              have Bu5 : Hid (Below W.heap.size W (((u4.setCell ⟨u0.heap.size, 0, none⟩ (.int .i64 (lo3 x.wd x.ht x.dp))).setCell ⟨u0.heap.size, 1, none⟩ (.int .i64 (mid3 x.wd x.ht x.dp))).setCell ⟨u0.heap.size, 2, none⟩ (.int .i64 (hi3 x.wd x.ht x.dp)))) := (bw_set (bw_set (bw_set (unhide Bu4) Gp _) Gp _) Gp _)
              have Kpu5 : Hid (Blk (((u4.setCell ⟨u0.heap.size, 0, none⟩ (.int .i64 (lo3 x.wd x.ht x.dp))).setCell ⟨u0.heap.size, 1, none⟩ (.int .i64 (mid3 x.wd x.ht x.dp))).setCell ⟨u0.heap.size, 2, none⟩ (.int .i64 (hi3 x.wd x.ht x.dp))) u0.heap.size [.int .i64 (lo3 x.wd x.ht x.dp), .int .i64 (mid3 x.wd x.ht x.dp), .int .i64 (hi3 x.wd x.ht x.dp)]) := Blk.fill3 (unhide Kpu4)
              have Lpu5 : u0.heap.size < (((u4.setCell ⟨u0.heap.size, 0, none⟩ (.int .i64 (lo3 x.wd x.ht x.dp))).setCell ⟨u0.heap.size, 1, none⟩ (.int .i64 (mid3 x.wd x.ht x.dp))).setCell ⟨u0.heap.size, 2, none⟩ (.int .i64 (hi3 x.wd x.ht x.dp))).heap.size := by simpa using Lpu4
              have Kqu5 : Hid (Blk (((u4.setCell ⟨u0.heap.size, 0, none⟩ (.int .i64 (lo3 x.wd x.ht x.dp))).setCell ⟨u0.heap.size, 1, none⟩ (.int .i64 (mid3 x.wd x.ht x.dp))).setCell ⟨u0.heap.size, 2, none⟩ (.int .i64 (hi3 x.wd x.ht x.dp))) u3.heap.size [.int .i64 0, .int .i64 0, .int .i64 0]) := ((((unhide Kqu4).other Nqp).other Nqp).other Nqp)
              have Lqu5 : u3.heap.size < (((u4.setCell ⟨u0.heap.size, 0, none⟩ (.int .i64 (lo3 x.wd x.ht x.dp))).setCell ⟨u0.heap.size, 1, none⟩ (.int .i64 (mid3 x.wd x.ht x.dp))).setCell ⟨u0.heap.size, 2, none⟩ (.int .i64 (hi3 x.wd x.ht x.dp))).heap.size := by simpa using Lqu4
              clear Kqu4 Lqu4
              clear Kpu4 Lpu4
              generalize (((u4.setCell ⟨u0.heap.size, 0, none⟩ (.int .i64 (lo3 x.wd x.ht x.dp))).setCell ⟨u0.heap.size, 1, none⟩ (.int .i64 (mid3 x.wd x.ht x.dp))).setCell ⟨u0.heap.size, 2, none⟩ (.int .i64 (hi3 x.wd x.ht x.dp))) = u5 at *
              (try clear hHeld)
              refine wpTo_ready (rs := [17]) (by kernel_rfl) (by simp) ?_
              refine AllTo.cons (o := _) rfl (fun K hK => ?_) ?_
              · (try simp only [List.getElem_toArray, List.getElem_cons_zero, List.getElem_cons_succ])
                have p0 := ((unhide Kqu5) 0 (by simp)).1
                have q0 := ((unhide Kqu5) 0 (by simp)).2
                have p1 := ((unhide Kqu5) 1 (by simp)).1
                have q1 := ((unhide Kqu5) 1 (by simp)).2
                have p2 := ((unhide Kqu5) 2 (by simp)).1
                have q2 := ((unhide Kqu5) 2 (by simp)).2
                go_simp
                refine hK.out _ _ (fun _ => (unhide KS) _ (bw_set (bw_set (bw_set (unhide Bu5) Gq _) Gq _) Gq _)) ?_
                clear hK K
                try simp only [Act.put, List.getElem_toArray, List.getElem_cons_zero, List.getElem_cons_succ, List.setIfInBounds_toArray, List.set_cons_zero, List.set_cons_succ]
                clear p0 q0 p1 q1 p2 q2
                have Bu6 : Hid (Below W.heap.size W (((u5.setCell ⟨u3.heap.size, 0, none⟩ (.int .i64 (lo3 t.wd t.ht t.dp))).setCell ⟨u3.heap.size, 1, none⟩ (.int .i64 (mid3 t.wd t.ht t.dp))).setCell ⟨u3.heap.size, 2, none⟩ (.int .i64 (hi3 t.wd t.ht t.dp)))) := (bw_set (bw_set (bw_set (unhide Bu5) Gq _) Gq _) Gq _)
                have Kqu6 : Hid (Blk (((u5.setCell ⟨u3.heap.size, 0, none⟩ (.int .i64 (lo3 t.wd t.ht t.dp))).setCell ⟨u3.heap.size, 1, none⟩ (.int .i64 (mid3 t.wd t.ht t.dp))).setCell ⟨u3.heap.size, 2, none⟩ (.int .i64 (hi3 t.wd t.ht t.dp))) u3.heap.size [.int .i64 (lo3 t.wd t.ht t.dp), .int .i64 (mid3 t.wd t.ht t.dp), .int .i64 (hi3 t.wd t.ht t.dp)]) := Blk.fill3 (unhide Kqu5)
                have Lqu6 : u3.heap.size < (((u5.setCell ⟨u3.heap.size, 0, none⟩ (.int .i64 (lo3 t.wd t.ht t.dp))).setCell ⟨u3.heap.size, 1, none⟩ (.int .i64 (mid3 t.wd t.ht t.dp))).setCell ⟨u3.heap.size, 2, none⟩ (.int .i64 (hi3 t.wd t.ht t.dp))).heap.size := by simpa using Lqu5
                have Kpu6 : Hid (Blk (((u5.setCell ⟨u3.heap.size, 0, none⟩ (.int .i64 (lo3 t.wd t.ht t.dp))).setCell ⟨u3.heap.size, 1, none⟩ (.int .i64 (mid3 t.wd t.ht t.dp))).setCell ⟨u3.heap.size, 2, none⟩ (.int .i64 (hi3 t.wd t.ht t.dp))) u0.heap.size [.int .i64 (lo3 x.wd x.ht x.dp), .int .i64 (mid3 x.wd x.ht x.dp), .int .i64 (hi3 x.wd x.ht x.dp)]) := ((((unhide Kpu5).other Npq).other Npq).other Npq)
                have Lpu6 : u0.heap.size < (((u5.setCell ⟨u3.heap.size, 0, none⟩ (.int .i64 (lo3 t.wd t.ht t.dp))).setCell ⟨u3.heap.size, 1, none⟩ (.int .i64 (mid3 t.wd t.ht t.dp))).setCell ⟨u3.heap.size, 2, none⟩ (.int .i64 (hi3 t.wd t.ht t.dp))).heap.size := by simpa using Lpu5
                clear Kpu5 Lpu5
                clear Kqu5 Lqu5
                generalize (((u5.setCell ⟨u3.heap.size, 0, none⟩ (.int .i64 (lo3 t.wd t.ht t.dp))).setCell ⟨u3.heap.size, 1, none⟩ (.int .i64 (mid3 t.wd t.ht t.dp))).setCell ⟨u3.heap.size, 2, none⟩ (.int .i64 (hi3 t.wd t.ht t.dp))) = u6 at *
                refine wpTo_done (by kernel_rfl) ?_ _
                refine NoPanic.normal ?_
                go_wp2_with fail
                go_meet
                case rel => exact ⟨_, _, rfl, rfl, unhide Kpu6, unhide Kqu6, unhide Bu6⟩
              exact AllTo.nil
            exact AllTo.nil
          exact AllTo.nil
        refine AllTo.cons (o := _) rfl (fun K hK => ?_) ?_
        · (try simp only [List.getElem_toArray, List.getElem_cons_zero, List.getElem_cons_succ])
          go_simp
          refine hK.out _ _ (fun _ => (unhide KS) _ (bw_alloc (unhide Bu2) _)) ?_
          clear hK K
          try simp only [Act.put, List.getElem_toArray, List.getElem_cons_zero, List.getElem_cons_succ, List.setIfInBounds_toArray, List.set_cons_zero, List.set_cons_succ]
          have Bu3 : Hid (Below W.heap.size W (u2.alloc (.cells #[.int .i64 0, .int .i64 0, .int .i64 0] 191))) := bw_alloc (unhide Bu2) _
          have Kqu3 : Hid (Blk (u2.alloc (.cells #[.int .i64 0, .int .i64 0, .int .i64 0] 191)) u2.heap.size [.int .i64 0, .int .i64 0, .int .i64 0]) := Blk.allocAt [.int .i64 0, .int .i64 0, .int .i64 0] rfl
          have Lqu3 : u2.heap.size < (u2.alloc (.cells #[.int .i64 0, .int .i64 0, .int .i64 0] 191)).heap.size := by simp
          have Gq : W.heap.size ≤ u2.heap.size := (unhide Bu2).size
          have Kpu3 : Hid (Blk (u2.alloc (.cells #[.int .i64 0, .int .i64 0, .int .i64 0] 191)) u0.heap.size [.int .i64 0, .int .i64 0, .int .i64 0]) := (unhide Kpu2).allocOld Lpu2 _
          have Lpu3 : u0.heap.size < (u2.alloc (.cells #[.int .i64 0, .int .i64 0, .int .i64 0] 191)).heap.size := by simp; omega
          have Npq : u0.heap.size ≠ u2.heap.size := Nat.ne_of_lt Lpu2
          have Nqp : u2.heap.size ≠ u0.heap.size := Ne.symm Npq
          clear Kpu2 Lpu2
          generalize (u2.alloc (.cells #[.int .i64 0, .int .i64 0, .int .i64 0] 191)) = u3 at *
          (try clear hHeld)
          refine wpTo_ready (rs := [13]) (by kernel_rfl) (by simp) ?_
          refine AllTo.cons (o := _) rfl (fun K hK => ?_) ?_
          · (try simp only [List.getElem_toArray, List.getElem_cons_zero, List.getElem_cons_succ])
            go_simp
            refine (sidesUp_any _ _ _ _).mono ?_
            rintro e u4 ⟨rfl, hb⟩
            have Bu4 := hide (bw_call (unhide Bu3) hb)
            have Kpu4 := hide (Blk.below hb Lpu3 (unhide Kpu3))
            have Lpu4 : u0.heap.size < u4.heap.size := Nat.lt_of_lt_of_le Lpu3 hb.size
            have Kqu4 := hide (Blk.below hb Lqu3 (unhide Kqu3))
            have Lqu4 : u2.heap.size < u4.heap.size := Nat.lt_of_lt_of_le Lqu3 hb.size
            clear hb
            go_wp2_with fail
            refine hK.out _ _ (fun _ => (unhide KS) _ (unhide Bu4)) ?_
            clear hK K
            try simp only [Act.put, List.getElem_toArray, List.getElem_cons_zero, List.getElem_cons_succ, List.setIfInBounds_toArray, List.set_cons_zero, List.set_cons_succ]
            clear Kpu3 Lpu3
            clear Kqu3 Lqu3
            (try clear hHeld)
            refine wpTo_ready (rs := [16]) (by kernel_rfl) (by simp) ?_
            refine AllTo.cons (o := _) rfl (fun K hK => ?_) ?_
            · (try simp only [List.getElem_toArray, List.getElem_cons_zero, List.getElem_cons_succ])
              have p0 := ((unhide Kpu4) 0 (by simp)).1
              have q0 := ((unhide Kpu4) 0 (by simp)).2
              have p1 := ((unhide Kpu4) 1 (by simp)).1
              have q1 := ((unhide Kpu4) 1 (by simp)).2
              have p2 := ((unhide Kpu4) 2 (by simp)).1
              have q2 := ((unhide Kpu4) 2 (by simp)).2
              go_simp
              refine hK.out _ _ (fun _ => (unhide KS) _ (bw_set (bw_set (bw_set (unhide Bu4) Gp _) Gp _) Gp _)) ?_
              clear hK K
              try simp only [Act.put, List.getElem_toArray, List.getElem_cons_zero, List.getElem_cons_succ, List.setIfInBounds_toArray, List.set_cons_zero, List.set_cons_succ]
              clear p0 q0 p1 q1 p2 q2
              have Bu5 : Hid (Below W.heap.size W (((u4.setCell ⟨u0.heap.size, 0, none⟩ (.int .i64 (lo3 x.wd x.ht x.dp))).setCell ⟨u0.heap.size, 1, none⟩ (.int .i64 (mid3 x.wd x.ht x.dp))).setCell ⟨u0.heap.size, 2, none⟩ (.int .i64 (hi3 x.wd x.ht x.dp)))) := (bw_set (bw_set (bw_set (unhide Bu4) Gp _) Gp _) Gp _)
              have Kpu5 : Hid (Blk (((u4.setCell ⟨u0.heap.size, 0, none⟩ (.int .i64 (lo3 x.wd x.ht x.dp))).setCell ⟨u0.heap.size, 1, none⟩ (.int .i64 (mid3 x.wd x.ht x.dp))).setCell ⟨u0.heap.size, 2, none⟩ (.int .i64 (hi3 x.wd x.ht x.dp))) u0.heap.size [.int .i64 (lo3 x.wd x.ht x.dp), .int .i64 (mid3 x.wd x.ht x.dp), .int .i64 (hi3 x.wd x.ht x.dp)]) := Blk.fill3 (unhide Kpu4)
              have Lpu5 : u0.heap.size < (((u4.setCell ⟨u0.heap.size, 0, none⟩ (.int .i64 (lo3 x.wd x.ht x.dp))).setCell ⟨u0.heap.size, 1, none⟩ (.int .i64 (mid3 x.wd x.ht x.dp))).setCell ⟨u0.heap.size, 2, none⟩ (.int .i64 (hi3 x.wd x.ht x.dp))).heap.size := by simpa using Lpu4
              have Kqu5 : Hid (Blk (((u4.setCell ⟨u0.heap.size, 0, none⟩ (.int .i64 (lo3 x.wd x.ht x.dp))).setCell ⟨u0.heap.size, 1, none⟩ (.int .i64 (mid3 x.wd x.ht x.dp))).setCell ⟨u0.heap.size, 2, none⟩ (.int .i64 (hi3 x.wd x.ht x.dp))) u2.heap.size [.int .i64 0, .int .i64 0, .int .i64 0]) := ((((unhide Kqu4).other Nqp).other Nqp).other Nqp)
              have Lqu5 : u2.heap.size < (((u4.setCell ⟨u0.heap.size, 0, none⟩ (.int .i64 (lo3 x.wd x.ht x.dp))).setCell ⟨u0.heap.size, 1, none⟩ (.int .i64 (mid3 x.wd x.ht x.dp))).setCell ⟨u0.heap.size, 2, none⟩ (.int .i64 (hi3 x.wd x.ht x.dp))).heap.size := by simpa using Lqu4
              clear Kqu4 Lqu4
              clear Kpu4 Lpu4
              generalize (((u4.setCell ⟨u0.heap.size, 0, none⟩ (.int .i64 (lo3 x.wd x.ht x.dp))).setCell ⟨u0.heap.size, 1, none⟩ (.int .i64 (mid3 x.wd x.ht x.dp))).setCell ⟨u0.heap.size, 2, none⟩ (.int .i64 (hi3 x.wd x.ht x.dp))) = u5 at *
              (try clear hHeld)
              refine wpTo_ready (rs := [17]) (by kernel_rfl) (by simp) ?_
              refine AllTo.cons (o := _) rfl (fun K hK => ?_) ?_
              · (try simp only [List.getElem_toArray, List.getElem_cons_zero, List.getElem_cons_succ])
                have p0 := ((unhide Kqu5) 0 (by simp)).1
                have q0 := ((unhide Kqu5) 0 (by simp)).2
                have p1 := ((unhide Kqu5) 1 (by simp)).1
                have q1 := ((unhide Kqu5) 1 (by simp)).2
                have p2 := ((unhide Kqu5) 2 (by simp)).1
                have q2 := ((unhide Kqu5) 2 (by simp)).2
                go_simp
                refine hK.out _ _ (fun _ => (unhide KS) _ (bw_set (bw_set (bw_set (unhide Bu5) Gq _) Gq _) Gq _)) ?_
                clear hK K
                try simp only [Act.put, List.getElem_toArray, List.getElem_cons_zero, List.getElem_cons_succ, List.setIfInBounds_toArray, List.set_cons_zero, List.set_cons_succ]
                clear p0 q0 p1 q1 p2 q2
                have Bu6 : Hid (Below W.heap.size W (((u5.setCell ⟨u2.heap.size, 0, none⟩ (.int .i64 (lo3 t.wd t.ht t.dp))).setCell ⟨u2.heap.size, 1, none⟩ (.int .i64 (mid3 t.wd t.ht t.dp))).setCell ⟨u2.heap.size, 2, none⟩ (.int .i64 (hi3 t.wd t.ht t.dp)))) := (bw_set (bw_set (bw_set (unhide Bu5) Gq _) Gq _) Gq _)
                have Kqu6 : Hid (Blk (((u5.setCell ⟨u2.heap.size, 0, none⟩ (.int .i64 (lo3 t.wd t.ht t.dp))).setCell ⟨u2.heap.size, 1, none⟩ (.int .i64 (mid3 t.wd t.ht t.dp))).setCell ⟨u2.heap.size, 2, none⟩ (.int .i64 (hi3 t.wd t.ht t.dp))) u2.heap.size [.int .i64 (lo3 t.wd t.ht t.dp), .int .i64 (mid3 t.wd t.ht t.dp), .int .i64 (hi3 t.wd t.ht t.dp)]) := Blk.fill3 (unhide Kqu5)
                have Lqu6 : u2.heap.size < (((u5.setCell ⟨u2.heap.size, 0, none⟩ (.int .i64 (lo3 t.wd t.ht t.dp))).setCell ⟨u2.heap.size, 1, none⟩ (.int .i64 (mid3 t.wd t.ht t.dp))).setCell ⟨u2.heap.size, 2, none⟩ (.int .i64 (hi3 t.wd t.ht t.dp))).heap.size := by simpa using Lqu5
                have Kpu6 : Hid (Blk (((u5.setCell ⟨u2.heap.size, 0, none⟩ (.int .i64 (lo3 t.wd t.ht t.dp))).setCell ⟨u2.heap.size, 1, none⟩ (.int .i64 (mid3 t.wd t.ht t.dp))).setCell ⟨u2.heap.size, 2, none⟩ (.int .i64 (hi3 t.wd t.ht t.dp))) u0.heap.size [.int .i64 (lo3 x.wd x.ht x.dp), .int .i64 (mid3 x.wd x.ht x.dp), .int .i64 (hi3 x.wd x.ht x.dp)]) := ((((unhide Kpu5).other Npq).other Npq).other Npq)
                have Lpu6 : u0.heap.size < (((u5.setCell ⟨u2.heap.size, 0, none⟩ (.int .i64 (lo3 t.wd t.ht t.dp))).setCell ⟨u2.heap.size, 1, none⟩ (.int .i64 (mid3 t.wd t.ht t.dp))).setCell ⟨u2.heap.size, 2, none⟩ (.int .i64 (hi3 t.wd t.ht t.dp))).heap.size := by simpa using Lpu5
                clear Kpu5 Lpu5
                clear Kqu5 Lqu5
                generalize (((u5.setCell ⟨u2.heap.size, 0, none⟩ (.int .i64 (lo3 t.wd t.ht t.dp))).setCell ⟨u2.heap.size, 1, none⟩ (.int .i64 (mid3 t.wd t.ht t.dp))).setCell ⟨u2.heap.size, 2, none⟩ (.int .i64 (hi3 t.wd t.ht t.dp))) = u6 at *
                refine wpTo_done (by kernel_rfl) ?_ _
                refine NoPanic.normal ?_
                go_wp2_with fail
                go_meet
                case rel => exact ⟨_, _, rfl, rfl, unhide Kpu6, unhide Kqu6, unhide Bu6⟩
              exact AllTo.nil
            exact AllTo.nil
          exact AllTo.nil
        exact AllTo.nil
      refine AllTo.cons (o := _) rfl (fun K hK => ?_) ?_
      · (try simp only [List.getElem_toArray, List.getElem_cons_zero, List.getElem_cons_succ])
        go_simp
        refine hK.out _ _ (fun _ => (unhide KS) _ (bw_alloc (unhide Bu1) _)) ?_
        clear hK K
        try simp only [Act.put, List.getElem_toArray, List.getElem_cons_zero, List.getElem_cons_succ, List.setIfInBounds_toArray, List.set_cons_zero, List.set_cons_succ]
        have Bu2 : Hid (Below W.heap.size W (u1.alloc (.cells #[.int .i64 0, .int .i64 0, .int .i64 0] 191))) := bw_alloc (unhide Bu1) _
        have Kqu2 : Hid (Blk (u1.alloc (.cells #[.int .i64 0, .int .i64 0, .int .i64 0] 191)) u1.heap.size [.int .i64 0, .int .i64 0, .int .i64 0]) := Blk.allocAt [.int .i64 0, .int .i64 0, .int .i64 0] rfl
        have Lqu2 : u1.heap.size < (u1.alloc (.cells #[.int .i64 0, .int .i64 0, .int .i64 0] 191)).heap.size := by simp
        have Gq : W.heap.size ≤ u1.heap.size := (unhide Bu1).size
        have Kpu2 : Hid (Blk (u1.alloc (.cells #[.int .i64 0, .int .i64 0, .int .i64 0] 191)) u0.heap.size [.int .i64 0, .int .i64 0, .int .i64 0]) := (unhide Kpu1).allocOld Lpu1 _
        have Lpu2 : u0.heap.size < (u1.alloc (.cells #[.int .i64 0, .int .i64 0, .int .i64 0] 191)).heap.size := by simp; omega
        have Npq : u0.heap.size ≠ u1.heap.size := Nat.ne_of_lt Lpu1
        have Nqp : u1.heap.size ≠ u0.heap.size := Ne.symm Npq
        clear Kpu1 Lpu1
        generalize (u1.alloc (.cells #[.int .i64 0, .int .i64 0, .int .i64 0] 191)) = u2 at *
        (try clear hHeld)
        refine wpTo_ready (rs := [6]) (by kernel_rfl) (by simp) ?_
        refine AllTo.cons (o := _) rfl (fun K hK => ?_) ?_
        · (try simp only [List.getElem_toArray, List.getElem_cons_zero, List.getElem_cons_succ])
          go_simp
          refine (sidesUp_any _ _ _ _).mono ?_
          rintro e u3 ⟨rfl, hb⟩
          have Bu3 := hide (bw_call (unhide Bu2) hb)
          have Kpu3 := hide (Blk.below hb Lpu2 (unhide Kpu2))
          have Lpu3 : u0.heap.size < u3.heap.size := Nat.lt_of_lt_of_le Lpu2 hb.size
          have Kqu3 := hide (Blk.below hb Lqu2 (unhide Kqu2))
          have Lqu3 : u1.heap.size < u3.heap.size := Nat.lt_of_lt_of_le Lqu2 hb.size
          clear hb
          go_wp2_with fail
          refine hK.out _ _ (fun _ => (unhide KS) _ (unhide Bu3)) ?_
          clear hK K
          try simp only [Act.put, List.getElem_toArray, List.getElem_cons_zero, List.getElem_cons_succ, List.setIfInBounds_toArray, List.set_cons_zero, List.set_cons_succ]
          clear Kpu2 Lpu2
          clear Kqu2 Lqu2
          (try clear hHeld)
          refine wpTo_ready (rs := [13]) (by kernel_rfl) (by simp) ?_
          refine AllTo.cons (o := _) rfl (fun K hK => ?_) ?_
          · (try simp only [List.getElem_toArray, List.getElem_cons_zero, List.getElem_cons_succ])
            go_simp
            refine (sidesUp_any _ _ _ _).mono ?_
            rintro e u4 ⟨rfl, hb⟩
            have Bu4 := hide (bw_call (unhide Bu3) hb)
            have Kpu4 := hide (Blk.below hb Lpu3 (unhide Kpu3))
            have Lpu4 : u0.heap.size < u4.heap.size := Nat.lt_of_lt_of_le Lpu3 hb.size
            have Kqu4 := hide (Blk.below hb Lqu3 (unhide Kqu3))
            have Lqu4 : u1.heap.size < u4.heap.size := Nat.lt_of_lt_of_le Lqu3 hb.size
            clear hb
            go_wp2_with fail
            refine hK.out _ _ (fun _ => (unhide KS) _ (unhide Bu4)) ?_
            clear hK K
            try simp only [Act.put, List.getElem_toArray, List.getElem_cons_zero, List.getElem_cons_succ, List.setIfInBounds_toArray, List.set_cons_zero, List.set_cons_succ]
            clear Kpu3 Lpu3
            clear Kqu3 Lqu3
            (try clear hHeld)
            refine wpTo_ready (rs := [16]) (by kernel_rfl) (by simp) ?_
            refine AllTo.cons (o := _) rfl (fun K hK => ?_) ?_
            · (try simp only [List.getElem_toArray, List.getElem_cons_zero, List.getElem_cons_succ])
              have p0 := ((unhide Kpu4) 0 (by simp)).1
              have q0 := ((unhide Kpu4) 0 (by simp)).2
              have p1 := ((unhide Kpu4) 1 (by simp)).1
              have q1 := ((unhide Kpu4) 1 (by simp)).2
              have p2 := ((unhide Kpu4) 2 (by simp)).1
              have q2 := ((unhide Kpu4) 2 (by simp)).2
              go_simp
              refine hK.out _ _ (fun _ => (unhide KS) _ (bw_set (bw_set (bw_set (unhide Bu4) Gp _) Gp _) Gp _)) ?_
              clear hK K
              try simp only [Act.put, List.getElem_toArray, List.getElem_cons_zero, List.getElem_cons_succ, List.setIfInBounds_toArray, List.set_cons_zero, List.set_cons_succ]
              clear p0 q0 p1 q1 p2 q2
              have Bu5 : Hid (Below W.heap.size W (((u4.setCell ⟨u0.heap.size, 0, none⟩ (.int .i64 (lo3 x.wd x.ht x.dp))).setCell ⟨u0.heap.size, 1, none⟩ (.int .i64 (mid3 x.wd x.ht x.dp))).setCell ⟨u0.heap.size, 2, none⟩ (.int .i64 (hi3 x.wd x.ht x.dp)))) := (bw_set (bw_set (bw_set (unhide Bu4) Gp _) Gp _) Gp _)
              have Kpu5 : Hid (Blk (((u4.setCell ⟨u0.heap.size, 0, none⟩ (.int .i64 (lo3 x.wd x.ht x.dp))).setCell ⟨u0.heap.size, 1, none⟩ (.int .i64 (mid3 x.wd x.ht x.dp))).setCell ⟨u0.heap.size, 2, none⟩ (.int .i64 (hi3 x.wd x.ht x.dp))) u0.heap.size [.int .i64 (lo3 x.wd x.ht x.dp), .int .i64 (mid3 x.wd x.ht x.dp), .int .i64 (hi3 x.wd x.ht x.dp)]) := Blk.fill3 (unhide Kpu4)
              have Lpu5 : u0.heap.size < (((u4.setCell ⟨u0.heap.size, 0, none⟩ (.int .i64 (lo3 x.wd x.ht x.dp))).setCell ⟨u0.heap.size, 1, none⟩ (.int .i64 (mid3 x.wd x.ht x.dp))).setCell ⟨u0.heap.size, 2, none⟩ (.int .i64 (hi3 x.wd x.ht x.dp))).heap.size := by simpa using Lpu4
              have Kqu5 : Hid (Blk (((u4.setCell ⟨u0.heap.size, 0, none⟩ (.int .i64 (lo3 x.wd x.ht x.dp))).setCell ⟨u0.heap.size, 1, none⟩ (.int .i64 (mid3 x.wd x.ht x.dp))).setCell ⟨u0.heap.size, 2, none⟩ (.int .i64 (hi3 x.wd x.ht x.dp))) u1.heap.size [.int .i64 0, .int .i64 0, .int .i64 0]) := ((((unhide Kqu4).other Nqp).other Nqp).other Nqp)
              have Lqu5 : u1.heap.size < (((u4.setCell ⟨u0.heap.size, 0, none⟩ (.int .i64 (lo3 x.wd x.ht x.dp))).setCell ⟨u0.heap.size, 1, none⟩ (.int .i64 (mid3 x.wd x.ht x.dp))).setCell ⟨u0.heap.size, 2, none⟩ (.int .i64 (hi3 x.wd x.ht x.dp))).heap.size := by simpa using Lqu4
              clear Kqu4 Lqu4
              clear Kpu4 Lpu4
              generalize (((u4.setCell ⟨u0.heap.size, 0, none⟩ (.int .i64 (lo3 x.wd x.ht x.dp))).setCell ⟨u0.heap.size, 1, none⟩ (.int .i64 (mid3 x.wd x.ht x.dp))).setCell ⟨u0.heap.size, 2, none⟩ (.int .i64 (hi3 x.wd x.ht x.dp))) = u5 at *
              (try clear hHeld)
              refine wpTo_ready (rs := [17]) (by kernel_rfl) (by simp) ?_
              refine AllTo.cons (o := _) rfl (fun K hK => ?_) ?_
              · (try simp only [List.getElem_toArray, List.getElem_cons_zero, List.getElem_cons_succ])
                have p0 := ((unhide Kqu5) 0 (by simp)).1
                have q0 := ((unhide Kqu5) 0 (by simp)).2
                have p1 := ((unhide Kqu5) 1 (by simp)).1
                have q1 := ((unhide Kqu5) 1 (by simp)).2
                have p2 := ((unhide Kqu5) 2 (by simp)).1
                have q2 := ((unhide Kqu5) 2 (by simp)).2
                go_simp
                refine hK.out _ _ (fun _ => (unhide KS) _ (bw_set (bw_set (bw_set (unhide Bu5) Gq _) Gq _) Gq _)) ?_
                clear hK K
                try simp only [Act.put, List.getElem_toArray, List.getElem_cons_zero, List.getElem_cons_succ, List.setIfInBounds_toArray, List.set_cons_zero, List.set_cons_succ]
                clear p0 q0 p1 q1 p2 q2
                have Bu6 : Hid (Below W.heap.size W (((u5.setCell ⟨u1.heap.size, 0, none⟩ (.int .i64 (lo3 t.wd t.ht t.dp))).setCell ⟨u1.heap.size, 1, none⟩ (.int .i64 (mid3 t.wd t.ht t.dp))).setCell ⟨u1.heap.size, 2, none⟩ (.int .i64 (hi3 t.wd t.ht t.dp)))) := (bw_set (bw_set (bw_set (unhide Bu5) Gq _) Gq _) Gq _)
                have Kqu6 : Hid (Blk (((u5.setCell ⟨u1.heap.size, 0, none⟩ (.int .i64 (lo3 t.wd t.ht t.dp))).setCell ⟨u1.heap.size, 1, none⟩ (.int .i64 (mid3 t.wd t.ht t.dp))).setCell ⟨u1.heap.size, 2, none⟩ (.int .i64 (hi3 t.wd t.ht t.dp))) u1.heap.size [.int .i64 (lo3 t.wd t.ht t.dp), .int .i64 (mid3 t.wd t.ht t.dp), .int .i64 (hi3 t.wd t.ht t.dp)]) := Blk.fill3 (unhide Kqu5)
                have Lqu6 : u1.heap.size < (((u5.setCell ⟨u1.heap.size, 0, none⟩ (.int .i64 (lo3 t.wd t.ht t.dp))).setCell ⟨u1.heap.size, 1, none⟩ (.int .i64 (mid3 t.wd t.ht t.dp))).setCell ⟨u1.heap.size, 2, none⟩ (.int .i64 (hi3 t.wd t.ht t.dp))).heap.size := by simpa using Lqu5
                have Kpu6 : Hid (Blk (((u5.setCell ⟨u1.heap.size, 0, none⟩ (.int .i64 (lo3 t.wd t.ht t.dp))).setCell ⟨u1.heap.size, 1, none⟩ (.int .i64 (mid3 t.wd t.ht t.dp))).setCell ⟨u1.heap.size, 2, none⟩ (.int .i64 (hi3 t.wd t.ht t.dp))) u0.heap.size [.int .i64 (lo3 x.wd x.ht x.dp), .int .i64 (mid3 x.wd x.ht x.dp), .int .i64 (hi3 x.wd x.ht x.dp)]) := ((((unhide Kpu5).other Npq).other Npq).other Npq)
                have Lpu6 : u0.heap.size < (((u5.setCell ⟨u1.heap.size, 0, none⟩ (.int .i64 (lo3 t.wd t.ht t.dp))).setCell ⟨u1.heap.size, 1, none⟩ (.int .i64 (mid3 t.wd t.ht t.dp))).setCell ⟨u1.heap.size, 2, none⟩ (.int .i64 (hi3 t.wd t.ht t.dp))).heap.size := by simpa using Lpu5
                clear Kpu5 Lpu5
                clear Kqu5 Lqu5
                generalize (((u5.setCell ⟨u1.heap.size, 0, none⟩ (.int .i64 (lo3 t.wd t.ht t.dp))).setCell ⟨u1.heap.size, 1, none⟩ (.int .i64 (mid3 t.wd t.ht t.dp))).setCell ⟨u1.heap.size, 2, none⟩ (.int .i64 (hi3 t.wd t.ht t.dp))) = u6 at *
                refine wpTo_done (by kernel_rfl) ?_ _
                refine NoPanic.normal ?_
                go_wp2_with fail
                go_meet
                case rel => exact ⟨_, _, rfl, rfl, unhide Kpu6, unhide Kqu6, unhide Bu6⟩
              exact AllTo.nil
            exact AllTo.nil
          exact AllTo.nil
        exact AllTo.nil
      exact AllTo.nil
    refine AllTo.cons (o := _) rfl (fun K hK => ?_) ?_
    · (try simp only [List.getElem_toArray, List.getElem_cons_zero, List.getElem_cons_succ])
      go_simp
      refine hK.out _ _ (fun _ => (unhide KS) _ (bw_alloc (unhide Bu0) _)) ?_
      clear hK K
      try simp only [Act.put, List.getElem_toArray, List.getElem_cons_zero, List.getElem_cons_succ, List.setIfInBounds_toArray, List.set_cons_zero, List.set_cons_succ]
      have Bu1 : Hid (Below W.heap.size W (u0.alloc (.cells #[.int .i64 0, .int .i64 0, .int .i64 0] 191))) := bw_alloc (unhide Bu0) _
      have Kqu1 : Hid (Blk (u0.alloc (.cells #[.int .i64 0, .int .i64 0, .int .i64 0] 191)) u0.heap.size [.int .i64 0, .int .i64 0, .int .i64 0]) := Blk.allocAt [.int .i64 0, .int .i64 0, .int .i64 0] rfl
      have Lqu1 : u0.heap.size < (u0.alloc (.cells #[.int .i64 0, .int .i64 0, .int .i64 0] 191)).heap.size := by simp
      have Gq : W.heap.size ≤ u0.heap.size := (unhide Bu0).size
      generalize (u0.alloc (.cells #[.int .i64 0, .int .i64 0, .int .i64 0] 191)) = u1 at *
      (try clear hHeld)
      refine wpTo_ready (rs := [6, 14]) (by kernel_rfl) (by simp) ?_
      refine AllTo.cons (o := _) rfl (fun K hK => ?_) ?_
      · (try simp only [List.getElem_toArray, List.getElem_cons_zero, List.getElem_cons_succ])
        go_simp
        refine (sidesUp_any _ _ _ _).mono ?_
        rintro e u2 ⟨rfl, hb⟩
        have Bu2 := hide (bw_call (unhide Bu1) hb)
        have Kqu2 := hide (Blk.below hb Lqu1 (unhide Kqu1))
        have Lqu2 : u0.heap.size < u2.heap.size := Nat.lt_of_lt_of_le Lqu1 hb.size
        clear hb
        go_wp2_with fail
        refine hK.out _ _ (fun _ => (unhide KS) _ (unhide Bu2)) ?_
        clear hK K
        try simp only [Act.put, List.getElem_toArray, List.getElem_cons_zero, List.getElem_cons_succ, List.setIfInBounds_toArray, List.set_cons_zero, List.set_cons_succ]
        clear Kqu1 Lqu1
        (try clear hHeld)
        refine wpTo_ready (rs := [13, 14]) (by kernel_rfl) (by simp) ?_
        refine AllTo.cons (o := _) rfl (fun K hK => ?_) ?_
        · (try simp only [List.getElem_toArray, List.getElem_cons_zero, List.getElem_cons_succ])
          go_simp
          refine (sidesUp_any _ _ _ _).mono ?_
          rintro e u3 ⟨rfl, hb⟩
          have Bu3 := hide (bw_call (unhide Bu2) hb)
          have Kqu3 := hide (Blk.below hb Lqu2 (unhide Kqu2))
          have Lqu3 : u0.heap.size < u3.heap.size := Nat.lt_of_lt_of_le Lqu2 hb.size
          clear hb
          go_wp2_with fail
          refine hK.out _ _ (fun _ => (unhide KS) _ (unhide Bu3)) ?_
          clear hK K
          try simp only [Act.put, List.getElem_toArray, List.getElem_cons_zero, List.getElem_cons_succ, List.setIfInBounds_toArray, List.set_cons_zero, List.set_cons_succ]
          clear Kqu2 Lqu2
          (try clear hHeld)
          refine wpTo_ready (rs := [14]) (by kernel_rfl) (by simp) ?_
          refine AllTo.cons (o := _) rfl (fun K hK => ?_) ?_
          · (try simp only [List.getElem_toArray, List.getElem_cons_zero, List.getElem_cons_succ])
            go_simp
            refine hK.out _ _ (fun _ => (unhide KS) _ (bw_alloc (unhide Bu3) _)) ?_
            clear hK K
            try simp only [Act.put, List.getElem_toArray, List.getElem_cons_zero, List.getElem_cons_succ, List.setIfInBounds_toArray, List.set_cons_zero, List.set_cons_succ]
            have Bu4 : Hid (Below W.heap.size W (u3.alloc (.cells #[.int .i64 0, .int .i64 0, .int .i64 0] 191))) := bw_alloc (unhide Bu3) _
            have Kpu4 : Hid (Blk (u3.alloc (.cells #[.int .i64 0, .int .i64 0, .int .i64 0] 191)) u3.heap.size [.int .i64 0, .int .i64 0, .int .i64 0]) := Blk.allocAt [.int .i64 0, .int .i64 0, .int .i64 0] rfl
            have Lpu4 : u3.heap.size < (u3.alloc (.cells #[.int .i64 0, .int .i64 0, .int .i64 0] 191)).heap.size := by simp
            have Gp : W.heap.size ≤ u3.heap.size := (unhide Bu3).size
            have Kqu4 : Hid (Blk (u3.alloc (.cells #[.int .i64 0, .int .i64 0, .int .i64 0] 191)) u0.heap.size [.int .i64 0, .int .i64 0, .int .i64 0]) := (unhide Kqu3).allocOld Lqu3 _
            have Lqu4 : u0.heap.size < (u3.alloc (.cells #[.int .i64 0, .int .i64 0, .int .i64 0] 191)).heap.size := by simp; omega
            have Nqp : u0.heap.size ≠ u3.heap.size := Nat.ne_of_lt Lqu3
            have Npq : u3.heap.size ≠ u0.heap.size := Ne.symm Nqp
            clear Kqu3 Lqu3
            generalize (u3.alloc (.cells #[.int .i64 0, .int .i64 0, .int .i64 0] 191)) = u4 at *
            (try clear hHeld)
            refine wpTo_ready (rs := [16]) (by kernel_rfl) (by simp) ?_
            refine AllTo.cons (o := _) rfl (fun K hK => ?_) ?_
            · (try simp only [List.getElem_toArray, List.getElem_cons_zero, List.getElem_cons_succ])
              have p0 := ((unhide Kpu4) 0 (by simp)).1
              have q0 := ((unhide Kpu4) 0 (by simp)).2
              have p1 := ((unhide Kpu4) 1 (by simp)).1
              have q1 := ((unhide Kpu4) 1 (by simp)).2
              have p2 := ((unhide Kpu4) 2 (by simp)).1
              have q2 := ((unhide Kpu4) 2 (by simp)).2
              go_simp
              refine hK.out _ _ (fun _ => (unhide KS) _ (bw_set (bw_set (bw_set (unhide Bu4) Gp _) Gp _) Gp _)) ?_
              clear hK K
              try simp only [Act.put, List.getElem_toArray, List.getElem_cons_zero, List.getElem_cons_succ, List.setIfInBounds_toArray, List.set_cons_zero, List.set_cons_succ]
              clear p0 q0 p1 q1 p2 q2
              have Bu5 : Hid (Below W.heap.size W (((u4.setCell ⟨u3.heap.size, 0, none⟩ (.int .i64 (lo3 x.wd x.ht x.dp))).setCell ⟨u3.heap.size, 1, none⟩ (.int .i64 (mid3 x.wd x.ht x.dp))).setCell ⟨u3.heap.size, 2, none⟩ (.int .i64 (hi3 x.wd x.ht x.dp)))) := (bw_set (bw_set (bw_set (unhide Bu4) Gp _) Gp _) Gp _)
              have Kpu5 : Hid (Blk (((u4.setCell ⟨u3.heap.size, 0, none⟩ (.int .i64 (lo3 x.wd x.ht x.dp))).setCell ⟨u3.heap.size, 1, none⟩ (.int .i64 (mid3 x.wd x.ht x.dp))).setCell ⟨u3.heap.size, 2, none⟩ (.int .i64 (hi3 x.wd x.ht x.dp))) u3.heap.size [.int .i64 (lo3 x.wd x.ht x.dp), .int .i64 (mid3 x.wd x.ht x.dp), .int .i64 (hi3 x.wd x.ht x.dp)]) := Blk.fill3 (unhide Kpu4)
              have Lpu5 : u3.heap.size < (((u4.setCell ⟨u3.heap.size, 0, none⟩ (.int .i64 (lo3 x.wd x.ht x.dp))).setCell ⟨u3.heap.size, 1, none⟩ (.int .i64 (mid3 x.wd x.ht x.dp))).setCell ⟨u3.heap.size, 2, none⟩ (.int .i64 (hi3 x.wd x.ht x.dp))).heap.size := by simpa using Lpu4
              have Kqu5 : Hid (Blk (((u4.setCell ⟨u3.heap.size, 0, none⟩ (.int .i64 (lo3 x.wd x.ht x.dp))).setCell ⟨u3.heap.size, 1, none⟩ (.int .i64 (mid3 x.wd x.ht x.dp))).setCell ⟨u3.heap.size, 2, none⟩ (.int .i64 (hi3 x.wd x.ht x.dp))) u0.heap.size [.int .i64 0, .int .i64 0, .int .i64 0]) := ((((unhide Kqu4).other Nqp).other Nqp).other Nqp)
              have Lqu5 : u0.heap.size < (((u4.setCell ⟨u3.heap.size, 0, none⟩ (.int .i64 (lo3 x.wd x.ht x.dp))).setCell ⟨u3.heap.size, 1, none⟩ (.int .i64 (mid3 x.wd x.ht x.dp))).setCell ⟨u3.heap.size, 2, none⟩ (.int .i64 (hi3 x.wd x.ht x.dp))).heap.size := by simpa using Lqu4
              clear Kqu4 Lqu4
              clear Kpu4 Lpu4
              generalize (((u4.setCell ⟨u3.heap.size, 0, none⟩ (.int .i64 (lo3 x.wd x.ht x.dp))).setCell ⟨u3.heap.size, 1, none⟩ (.int .i64 (mid3 x.wd x.ht x.dp))).setCell ⟨u3.heap.size, 2, none⟩ (.int .i64 (hi3 x.wd x.ht x.dp))) = u5 at *
              (try clear hHeld)
              refine wpTo_ready (rs := [17]) (by kernel_rfl) (by simp) ?_
              refine AllTo.cons (o := _) rfl (fun K hK => ?_) ?_
              · (try simp only [List.getElem_toArray, List.getElem_cons_zero, List.getElem_cons_succ])
                have p0 := ((unhide Kqu5) 0 (by simp)).1
                have q0 := ((unhide Kqu5) 0 (by simp)).2
                have p1 := ((unhide Kqu5) 1 (by simp)).1
                have q1 := ((unhide Kqu5) 1 (by simp)).2
                have p2 := ((unhide Kqu5) 2 (by simp)).1
                have q2 := ((unhide Kqu5) 2 (by simp)).2
                go_simp
                refine hK.out _ _ (fun _ => (unhide KS) _ (bw_set (bw_set (bw_set (unhide Bu5) Gq _) Gq _) Gq _)) ?_
                clear hK K
                try simp only [Act.put, List.getElem_toArray, List.getElem_cons_zero, List.getElem_cons_succ, List.setIfInBounds_toArray, List.set_cons_zero, List.set_cons_succ]
                clear p0 q0 p1 q1 p2 q2
                have Bu6 : Hid (Below W.heap.size W (((u5.setCell ⟨u0.heap.size, 0, none⟩ (.int .i64 (lo3 t.wd t.ht t.dp))).setCell ⟨u0.heap.size, 1, none⟩ (.int .i64 (mid3 t.wd t.ht t.dp))).setCell ⟨u0.heap.size, 2, none⟩ (.int .i64 (hi3 t.wd t.ht t.dp)))) := (bw_set (bw_set (bw_set (unhide Bu5) Gq _) Gq _) Gq _)
                have Kqu6 : Hid (Blk (((u5.setCell ⟨u0.heap.size, 0, none⟩ (.int .i64 (lo3 t.wd t.ht t.dp))).setCell ⟨u0.heap.size, 1, none⟩ (.int .i64 (mid3 t.wd t.ht t.dp))).setCell ⟨u0.heap.size, 2, none⟩ (.int .i64 (hi3 t.wd t.ht t.dp))) u0.heap.size [.int .i64 (lo3 t.wd t.ht t.dp), .int .i64 (mid3 t.wd t.ht t.dp), .int .i64 (hi3 t.wd t.ht t.dp)]) := Blk.fill3 (unhide Kqu5)
                have Lqu6 : u0.heap.size < (((u5.setCell ⟨u0.heap.size, 0, none⟩ (.int .i64 (lo3 t.wd t.ht t.dp))).setCell ⟨u0.heap.size, 1, none⟩ (.int .i64 (mid3 t.wd t.ht t.dp))).setCell ⟨u0.heap.size, 2, none⟩ (.int .i64 (hi3 t.wd t.ht t.dp))).heap.size := by simpa using Lqu5
                have Kpu6 : Hid (Blk (((u5.setCell ⟨u0.heap.size, 0, none⟩ (.int .i64 (lo3 t.wd t.ht t.dp))).setCell ⟨u0.heap.size, 1, none⟩ (.int .i64 (mid3 t.wd t.ht t.dp))).setCell ⟨u0.heap.size, 2, none⟩ (.int .i64 (hi3 t.wd t.ht t.dp))) u3.heap.size [.int .i64 (lo3 x.wd x.ht x.dp), .int .i64 (mid3 x.wd x.ht x.dp), .int .i64 (hi3 x.wd x.ht x.dp)]) := ((((unhide Kpu5).other Npq).other Npq).other Npq)
                have Lpu6 : u3.heap.size < (((u5.setCell ⟨u0.heap.size, 0, none⟩ (.int .i64 (lo3 t.wd t.ht t.dp))).setCell ⟨u0.heap.size, 1, none⟩ (.int .i64 (mid3 t.wd t.ht t.dp))).setCell ⟨u0.heap.size, 2, none⟩ (.int .i64 (hi3 t.wd t.ht t.dp))).heap.size := by simpa using Lpu5
                clear Kpu5 Lpu5
                clear Kqu5 Lqu5
                generalize (((u5.setCell ⟨u0.heap.size, 0, none⟩ (.int .i64 (lo3 t.wd t.ht t.dp))).setCell ⟨u0.heap.size, 1, none⟩ (.int .i64 (mid3 t.wd t.ht t.dp))).setCell ⟨u0.heap.size, 2, none⟩ (.int .i64 (hi3 t.wd t.ht t.dp))) = u6 at *
                refine wpTo_done (by kernel_rfl) ?_ _
                refine NoPanic.normal ?_
                go_wp2_with fail
                go_meet
                case rel => exact ⟨_, _, rfl, rfl, unhide Kpu6, unhide Kqu6, unhide Bu6⟩
              exact AllTo.nil
            exact AllTo.nil
          exact AllTo.nil
        refine AllTo.cons (o := _) rfl (fun K hK => ?_) ?_
        · (try simp only [List.getElem_toArray, List.getElem_cons_zero, List.getElem_cons_succ])
          go_simp
          refine hK.out _ _ (fun _ => (unhide KS) _ (bw_alloc (unhide Bu2) _)) ?_
          clear hK K
          try simp only [Act.put, List.getElem_toArray, List.getElem_cons_zero, List.getElem_cons_succ, List.setIfInBounds_toArray, List.set_cons_zero, List.set_cons_succ]
          have Bu3 : Hid (Below W.heap.size W (u2.alloc (.cells #[.int .i64 0, .int .i64 0, .int .i64 0] 191))) := bw_alloc (unhide Bu2) _
          have Kpu3 : Hid (Blk (u2.alloc (.cells #[.int .i64 0, .int .i64 0, .int .i64 0] 191)) u2.heap.size [.int .i64 0, .int .i64 0, .int .i64 0]) := Blk.allocAt [.int .i64 0, .int .i64 0, .int .i64 0] rfl
          have Lpu3 : u2.heap.size < (u2.alloc (.cells #[.int .i64 0, .int .i64 0, .int .i64 0] 191)).heap.size := by simp
          have Gp : W.heap.size ≤ u2.heap.size := (unhide Bu2).size
          have Kqu3 : Hid (Blk (u2.alloc (.cells #[.int .i64 0, .int .i64 0, .int .i64 0] 191)) u0.heap.size [.int .i64 0, .int .i64 0, .int .i64 0]) := (unhide Kqu2).allocOld Lqu2 _
          have Lqu3 : u0.heap.size < (u2.alloc (.cells #[.int .i64 0, .int .i64 0, .int .i64 0] 191)).heap.size := by simp; omega
          have Nqp : u0.heap.size ≠ u2.heap.size := Nat.ne_of_lt Lqu2
          have Npq : u2.heap.size ≠ u0.heap.size := Ne.symm Nqp
          clear Kqu2 Lqu2
          generalize (u2.alloc (.cells #[.int .i64 0, .int .i64 0, .int .i64 0] 191)) = u3 at *
          (try clear hHeld)
          refine wpTo_ready (rs := [13]) (by kernel_rfl) (by simp) ?_
          refine AllTo.cons (o := _) rfl (fun K hK => ?_) ?_
          · (try simp only [List.getElem_toArray, List.getElem_cons_zero, List.getElem_cons_succ])
            go_simp
            refine (sidesUp_any _ _ _ _).mono ?_
            rintro e u4 ⟨rfl, hb⟩
            have Bu4 := hide (bw_call (unhide Bu3) hb)
            have Kqu4 := hide (Blk.below hb Lqu3 (unhide Kqu3))
            have Lqu4 : u0.heap.size < u4.heap.size := Nat.lt_of_lt_of_le Lqu3 hb.size
            have Kpu4 := hide (Blk.below hb Lpu3 (unhide Kpu3))
            have Lpu4 : u2.heap.size < u4.heap.size := Nat.lt_of_lt_of_le Lpu3 hb.size
            clear hb
            go_wp2_with fail
            refine hK.out _ _ (fun _ => (unhide KS) _ (unhide Bu4)) ?_
            clear hK K
            try simp only [Act.put, List.getElem_toArray, List.getElem_cons_zero, List.getElem_cons_succ, List.setIfInBounds_toArray, List.set_cons_zero, List.set_cons_succ]
            clear Kqu3 Lqu3
            clear Kpu3 Lpu3
            (try clear hHeld)
            refine wpTo_ready (rs := [16]) (by kernel_rfl) (by simp) ?_
            refine AllTo.cons (o := _) rfl (fun K hK => ?_) ?_
            · (try simp only [List.getElem_toArray, List.getElem_cons_zero, List.getElem_cons_succ])
              have p0 := ((unhide Kpu4) 0 (by simp)).1
              have q0 := ((unhide Kpu4) 0 (by simp)).2
              have p1 := ((unhide Kpu4) 1 (by simp)).1
              have q1 := ((unhide Kpu4) 1 (by simp)).2
              have p2 := ((unhide Kpu4) 2 (by simp)).1
              have q2 := ((unhide Kpu4) 2 (by simp)).2
              go_simp
              refine hK.out _ _ (fun _ => (unhide KS) _ (bw_set (bw_set (bw_set (unhide Bu4) Gp _) Gp _) Gp _)) ?_
              clear hK K
              try simp only [Act.put, List.getElem_toArray, List.getElem_cons_zero, List.getElem_cons_succ, List.setIfInBounds_toArray, List.set_cons_zero, List.set_cons_succ]
              clear p0 q0 p1 q1 p2 q2
              have Bu5 : Hid (Below W.heap.size W (((u4.setCell ⟨u2.heap.size, 0, none⟩ (.int .i64 (lo3 x.wd x.ht x.dp))).setCell ⟨u2.heap.size, 1, none⟩ (.int .i64 (mid3 x.wd x.ht x.dp))).setCell ⟨u2.heap.size, 2, none⟩ (.int .i64 (hi3 x.wd x.ht x.dp)))) := (bw_set (bw_set (bw_set (unhide Bu4) Gp _) Gp _) Gp _)
              have Kpu5 : Hid (Blk (((u4.setCell ⟨u2.heap.size, 0, none⟩ (.int .i64 (lo3 x.wd x.ht x.dp))).setCell ⟨u2.heap.size, 1, none⟩ (.int .i64 (mid3 x.wd x.ht x.dp))).setCell ⟨u2.heap.size, 2, none⟩ (.int .i64 (hi3 x.wd x.ht x.dp))) u2.heap.size [.int .i64 (lo3 x.wd x.ht x.dp), .int .i64 (mid3 x.wd x.ht x.dp), .int .i64 (hi3 x.wd x.ht x.dp)]) := Blk.fill3 (unhide Kpu4)
              have Lpu5 : u2.heap.size < (((u4.setCell ⟨u2.heap.size, 0, none⟩ (.int .i64 (lo3 x.wd x.ht x.dp))).setCell ⟨u2.heap.size, 1, none⟩ (.int .i64 (mid3 x.wd x.ht x.dp))).setCell ⟨u2.heap.size, 2, none⟩ (.int .i64 (hi3 x.wd x.ht x.dp))).heap.size := by simpa using Lpu4
              have Kqu5 : Hid (Blk (((u4.setCell ⟨u2.heap.size, 0, none⟩ (.int .i64 (lo3 x.wd x.ht x.dp))).setCell ⟨u2.heap.size, 1, none⟩ (.int .i64 (mid3 x.wd x.ht x.dp))).setCell ⟨u2.heap.size, 2, none⟩ (.int .i64 (hi3 x.wd x.ht x.dp))) u0.heap.size [.int .i64 0, .int .i64 0, .int .i64 0]) := ((((unhide Kqu4).other Nqp).other Nqp).other Nqp)
              have Lqu5 : u0.heap.size < (((u4.setCell ⟨u2.heap.size, 0, none⟩ (.int .i64 (lo3 x.wd x.ht x.dp))).setCell ⟨u2.heap.size, 1, none⟩ (.int .i64 (mid3 x.wd x.ht x.dp))).setCell ⟨u2.heap.size, 2, none⟩ (.int .i64 (hi3 x.wd x.ht x.dp))).heap.size := by simpa using Lqu4
              clear Kqu4 Lqu4
              clear Kpu4 Lpu4
              generalize (((u4.setCell ⟨u2.heap.size, 0, none⟩ (.int .i64 (lo3 x.wd x.ht x.dp))).setCell ⟨u2.heap.size, 1, none⟩ (.int .i64 (mid3 x.wd x.ht x.dp))).setCell ⟨u2.heap.size, 2, none⟩ (.int .i64 (hi3 x.wd x.ht x.dp))) = u5 at *
              (try clear hHeld)
              refine wpTo_ready (rs := [17]) (by kernel_rfl) (by simp) ?_
              refine AllTo.cons (o := _) rfl (fun K hK => ?_) ?_
              · (try simp only [List.getElem_toArray, List.getElem_cons_zero, List.getElem_cons_succ])
                have p0 := ((unhide Kqu5) 0 (by simp)).1
                have q0 := ((unhide Kqu5) 0 (by simp)).2
                have p1 := ((unhide Kqu5) 1 (by simp)).1
                have q1 := ((unhide Kqu5) 1 (by simp)).2
                have p2 := ((unhide Kqu5) 2 (by simp)).1
                have q2 := ((unhide Kqu5) 2 (by simp)).2
                go_simp
                refine hK.out _ _ (fun _ => (unhide KS) _ (bw_set (bw_set (bw_set (unhide Bu5) Gq _) Gq _) Gq _)) ?_
                clear hK K
                try simp only [Act.put, List.getElem_toArray, List.getElem_cons_zero, List.getElem_cons_succ, List.setIfInBounds_toArray, List.set_cons_zero, List.set_cons_succ]
                clear p0 q0 p1 q1 p2 q2
                have Bu6 : Hid (Below W.heap.size W (((u5.setCell ⟨u0.heap.size, 0, none⟩ (.int .i64 (lo3 t.wd t.ht t.dp))).setCell ⟨u0.heap.size, 1, none⟩ (.int .i64 (mid3 t.wd t.ht t.dp))).setCell ⟨u0.heap.size, 2, none⟩ (.int .i64 (hi3 t.wd t.ht t.dp)))) := (bw_set (bw_set (bw_set (unhide Bu5) Gq _) Gq _) Gq _)
                have Kqu6 : Hid (Blk (((u5.setCell ⟨u0.heap.size, 0, none⟩ (.int .i64 (lo3 t.wd t.ht t.dp))).setCell ⟨u0.heap.size, 1, none⟩ (.int .i64 (mid3 t.wd t.ht t.dp))).setCell ⟨u0.heap.size, 2, none⟩ (.int .i64 (hi3 t.wd t.ht t.dp))) u0.heap.size [.int .i64 (lo3 t.wd t.ht t.dp), .int .i64 (mid3 t.wd t.ht t.dp), .int .i64 (hi3 t.wd t.ht t.dp)]) := Blk.fill3 (unhide Kqu5)
                have Lqu6 : u0.heap.size < (((u5.setCell ⟨u0.heap.size, 0, none⟩ (.int .i64 (lo3 t.wd t.ht t.dp))).setCell ⟨u0.heap.size, 1, none⟩ (.int .i64 (mid3 t.wd t.ht t.dp))).setCell ⟨u0.heap.size, 2, none⟩ (.int .i64 (hi3 t.wd t.ht t.dp))).heap.size := by simpa using Lqu5
                have Kpu6 : Hid (Blk (((u5.setCell ⟨u0.heap.size, 0, none⟩ (.int .i64 (lo3 t.wd t.ht t.dp))).setCell ⟨u0.heap.size, 1, none⟩ (.int .i64 (mid3 t.wd t.ht t.dp))).setCell ⟨u0.heap.size, 2, none⟩ (.int .i64 (hi3 t.wd t.ht t.dp))) u2.heap.size [.int .i64 (lo3 x.wd x.ht x.dp), .int .i64 (mid3 x.wd x.ht x.dp), .int .i64 (hi3 x.wd x.ht x.dp)]) := ((((unhide Kpu5).other Npq).other Npq).other Npq)
                have Lpu6 : u2.heap.size < (((u5.setCell ⟨u0.heap.size, 0, none⟩ (.int .i64 (lo3 t.wd t.ht t.dp))).setCell ⟨u0.heap.size, 1, none⟩ (.int .i64 (mid3 t.wd t.ht t.dp))).setCell ⟨u0.heap.size, 2, none⟩ (.int .i64 (hi3 t.wd t.ht t.dp))).heap.size := by simpa using Lpu5
                clear Kpu5 Lpu5
                clear Kqu5 Lqu5
                generalize (((u5.setCell ⟨u0.heap.size, 0, none⟩ (.int .i64 (lo3 t.wd t.ht t.dp))).setCell ⟨u0.heap.size, 1, none⟩ (.int .i64 (mid3 t.wd t.ht t.dp))).setCell ⟨u0.heap.size, 2, none⟩ (.int .i64 (hi3 t.wd t.ht t.dp))) = u6 at *
                refine wpTo_done (by kernel_rfl) ?_ _
                refine NoPanic.normal ?_
                go_wp2_with fail
                go_meet
                case rel => exact ⟨_, _, rfl, rfl, unhide Kpu6, unhide Kqu6, unhide Bu6⟩
              exact AllTo.nil
            exact AllTo.nil
          exact AllTo.nil
        exact AllTo.nil
      refine AllTo.cons (o := _) rfl (fun K hK => ?_) ?_
      · (try simp only [List.getElem_toArray, List.getElem_cons_zero, List.getElem_cons_succ])
        go_simp
        refine hK.out _ _ (fun _ => (unhide KS) _ (bw_alloc (unhide Bu1) _)) ?_
        clear hK K
        try simp only [Act.put, List.getElem_toArray, List.getElem_cons_zero, List.getElem_cons_succ, List.setIfInBounds_toArray, List.set_cons_zero, List.set_cons_succ]
        have Bu2 : Hid (Below W.heap.size W (u1.alloc (.cells #[.int .i64 0, .int .i64 0, .int .i64 0] 191))) := bw_alloc (unhide Bu1) _
        have Kpu2 : Hid (Blk (u1.alloc (.cells #[.int .i64 0, .int .i64 0, .int .i64 0] 191)) u1.heap.size [.int .i64 0, .int .i64 0, .int .i64 0]) := Blk.allocAt [.int .i64 0, .int .i64 0, .int .i64 0] rfl
        have Lpu2 : u1.heap.size < (u1.alloc (.cells #[.int .i64 0, .int .i64 0, .int .i64 0] 191)).heap.size := by simp
        have Gp : W.heap.size ≤ u1.heap.size := (unhide Bu1).size
        have Kqu2 : Hid (Blk (u1.alloc (.cells #[.int .i64 0, .int .i64 0, .int .i64 0] 191)) u0.heap.size [.int .i64 0, .int .i64 0, .int .i64 0]) := (unhide Kqu1).allocOld Lqu1 _
        have Lqu2 : u0.heap.size < (u1.alloc (.cells #[.int .i64 0, .int .i64 0, .int .i64 0] 191)).heap.size := by simp; omega
        have Nqp : u0.heap.size ≠ u1.heap.size := Nat.ne_of_lt Lqu1
        have Npq : u1.heap.size ≠ u0.heap.size := Ne.symm Nqp
        clear Kqu1 Lqu1
        generalize (u1.alloc (.cells #[.int .i64 0, .int .i64 0, .int .i64 0] 191)) = u2 at *
        (try clear hHeld)
        refine wpTo_ready (rs := [6]) (by kernel_rfl) (by simp) ?_
        refine AllTo.cons (o := _) rfl (fun K hK => ?_) ?_
        · (try simp only [List.getElem_toArray, List.getElem_cons_zero, List.getElem_cons_succ])
          go_simp
          refine (sidesUp_any _ _ _ _).mono ?_
          rintro e u3 ⟨rfl, hb⟩
          have Bu3 := hide (bw_call (unhide Bu2) hb)
          have Kqu3 := hide (Blk.below hb Lqu2 (unhide Kqu2))
          have Lqu3 : u0.heap.size < u3.heap.size := Nat.lt_of_lt_of_le Lqu2 hb.size
          have Kpu3 := hide (Blk.below hb Lpu2 (unhide Kpu2))
          have Lpu3 : u1.heap.size < u3.heap.size := Nat.lt_of_lt_of_le Lpu2 hb.size
          clear hb
          go_wp2_with fail
          refine hK.out _ _ (fun _ => (unhide KS) _ (unhide Bu3)) ?_
          clear hK K
          try simp only [Act.put, List.getElem_toArray, List.getElem_cons_zero, List.getElem_cons_succ, List.setIfInBounds_toArray, List.set_cons_zero, List.set_cons_succ]
          clear Kqu2 Lqu2
          clear Kpu2 Lpu2
          (try clear hHeld)
          refine wpTo_ready (rs := [13]) (by kernel_rfl) (by simp) ?_
          refine AllTo.cons (o := _) rfl (fun K hK => ?_) ?_
          · (try simp only [List.getElem_toArray, List.getElem_cons_zero, List.getElem_cons_succ])
            go_simp
            refine (sidesUp_any _ _ _ _).mono ?_
            rintro e u4 ⟨rfl, hb⟩
            have Bu4 := hide (bw_call (unhide Bu3) hb)
            have Kqu4 := hide (Blk.below hb Lqu3 (unhide Kqu3))
            have Lqu4 : u0.heap.size < u4.heap.size := Nat.lt_of_lt_of_le Lqu3 hb.size
            have Kpu4 := hide (Blk.below hb Lpu3 (unhide Kpu3))
            have Lpu4 : u1.heap.size < u4.heap.size := Nat.lt_of_lt_of_le Lpu3 hb.size
            clear hb
            go_wp2_with fail
            refine hK.out _ _ (fun _ => (unhide KS) _ (unhide Bu4)) ?_
            clear hK K
            try simp only [Act.put, List.getElem_toArray, List.getElem_cons_zero, List.getElem_cons_succ, List.setIfInBounds_toArray, List.set_cons_zero, List.set_cons_succ]
            clear Kqu3 Lqu3
            clear Kpu3 Lpu3
            (try clear hHeld)
            refine wpTo_ready (rs := [16]) (by kernel_rfl) (by simp) ?_
            refine AllTo.cons (o := _) rfl (fun K hK => ?_) ?_
            · (try simp only [List.getElem_toArray, List.getElem_cons_zero, List.getElem_cons_succ])
              have p0 := ((unhide Kpu4) 0 (by simp)).1
              have q0 := ((unhide Kpu4) 0 (by simp)).2
              have p1 := ((unhide Kpu4) 1 (by simp)).1
              have q1 := ((unhide Kpu4) 1 (by simp)).2
              have p2 := ((unhide Kpu4) 2 (by simp)).1
              have q2 := ((unhide Kpu4) 2 (by simp)).2
              go_simp
              refine hK.out _ _ (fun _ => (unhide KS) _ (bw_set (bw_set (bw_set (unhide Bu4) Gp _) Gp _) Gp _)) ?_
              clear hK K
              try simp only [Act.put, List.getElem_toArray, List.getElem_cons_zero, List.getElem_cons_succ, List.setIfInBounds_toArray, List.set_cons_zero, List.set_cons_succ]
              clear p0 q0 p1 q1 p2 q2
              have Bu5 : Hid (Below W.heap.size W (((u4.setCell ⟨u1.heap.size, 0, none⟩ (.int .i64 (lo3 x.wd x.ht x.dp))).setCell ⟨u1.heap.size, 1, none⟩ (.int .i64 (mid3 x.wd x.ht x.dp))).setCell ⟨u1.heap.size, 2, none⟩ (.int .i64 (hi3 x.wd x.ht x.dp)))) := (bw_set (bw_set (bw_set (unhide Bu4) Gp _) Gp _) Gp _)
              have Kpu5 : Hid (Blk (((u4.setCell ⟨u1.heap.size, 0, none⟩ (.int .i64 (lo3 x.wd x.ht x.dp))).setCell ⟨u1.heap.size, 1, none⟩ (.int .i64 (mid3 x.wd x.ht x.dp))).setCell ⟨u1.heap.size, 2, none⟩ (.int .i64 (hi3 x.wd x.ht x.dp))) u1.heap.size [.int .i64 (lo3 x.wd x.ht x.dp), .int .i64 (mid3 x.wd x.ht x.dp), .int .i64 (hi3 x.wd x.ht x.dp)]) := Blk.fill3 (unhide Kpu4)
              have Lpu5 : u1.heap.size < (((u4.setCell ⟨u1.heap.size, 0, none⟩ (.int .i64 (lo3 x.wd x.ht x.dp))).setCell ⟨u1.heap.size, 1, none⟩ (.int .i64 (mid3 x.wd x.ht x.dp))).setCell ⟨u1.heap.size, 2, none⟩ (.int .i64 (hi3 x.wd x.ht x.dp))).heap.size := by simpa using Lpu4
              have Kqu5 : Hid (Blk (((u4.setCell ⟨u1.heap.size, 0, none⟩ (.int .i64 (lo3 x.wd x.ht x.dp))).setCell ⟨u1.heap.size, 1, none⟩ (.int .i64 (mid3 x.wd x.ht x.dp))).setCell ⟨u1.heap.size, 2, none⟩ (.int .i64 (hi3 x.wd x.ht x.dp))) u0.heap.size [.int .i64 0, .int .i64 0, .int .i64 0]) := ((((unhide Kqu4).other Nqp).other Nqp).other Nqp)
              have Lqu5 : u0.heap.size < (((u4.setCell ⟨u1.heap.size, 0, none⟩ (.int .i64 (lo3 x.wd x.ht x.dp))).setCell ⟨u1.heap.size, 1, none⟩ (.int .i64 (mid3 x.wd x.ht x.dp))).setCell ⟨u1.heap.size, 2, none⟩ (.int .i64 (hi3 x.wd x.ht x.dp))).heap.size := by simpa using Lqu4
              clear Kqu4 Lqu4
              clear Kpu4 Lpu4
              generalize (((u4.setCell ⟨u1.heap.size, 0, none⟩ (.int .i64 (lo3 x.wd x.ht x.dp))).setCell ⟨u1.heap.size, 1, none⟩ (.int .i64 (mid3 x.wd x.ht x.dp))).setCell ⟨u1.heap.size, 2, none⟩ (.int .i64 (hi3 x.wd x.ht x.dp))) = u5 at *
              (try clear hHeld)
              refine wpTo_ready (rs := [17]) (by kernel_rfl) (by simp) ?_
              refine AllTo.cons (o := _) rfl (fun K hK => ?_) ?_
              · (try simp only [List.getElem_toArray, List.getElem_cons_zero, List.getElem_cons_succ])
                have p0 := ((unhide Kqu5) 0 (by simp)).1
                have q0 := ((unhide Kqu5) 0 (by simp)).2
                have p1 := ((unhide Kqu5) 1 (by simp)).1
                have q1 := ((unhide Kqu5) 1 (by simp)).2
                have p2 := ((unhide Kqu5) 2 (by simp)).1
                have q2 := ((unhide Kqu5) 2 (by simp)).2
                go_simp
                refine hK.out _ _ (fun _ => (unhide KS) _ (bw_set (bw_set (bw_set (unhide Bu5) Gq _) Gq _) Gq _)) ?_
                clear hK K
                try simp only [Act.put, List.getElem_toArray, List.getElem_cons_zero, List.getElem_cons_succ, List.setIfInBounds_toArray, List.set_cons_zero, List.set_cons_succ]
                clear p0 q0 p1 q1 p2 q2
                have Bu6 : Hid (Below W.heap.size W (((u5.setCell ⟨u0.heap.size, 0, none⟩ (.int .i64 (lo3 t.wd t.ht t.dp))).setCell ⟨u0.heap.size, 1, none⟩ (.int .i64 (mid3 t.wd t.ht t.dp))).setCell ⟨u0.heap.size, 2, none⟩ (.int .i64 (hi3 t.wd t.ht t.dp)))) := (bw_set (bw_set (bw_set (unhide Bu5) Gq _) Gq _) Gq _)
                have Kqu6 : Hid (Blk (((u5.setCell ⟨u0.heap.size, 0, none⟩ (.int .i64 (lo3 t.wd t.ht t.dp))).setCell ⟨u0.heap.size, 1, none⟩ (.int .i64 (mid3 t.wd t.ht t.dp))).setCell ⟨u0.heap.size, 2, none⟩ (.int .i64 (hi3 t.wd t.ht t.dp))) u0.heap.size [.int .i64 (lo3 t.wd t.ht t.dp), .int .i64 (mid3 t.wd t.ht t.dp), .int .i64 (hi3 t.wd t.ht t.dp)]) := Blk.fill3 (unhide Kqu5)
                have Lqu6 : u0.heap.size < (((u5.setCell ⟨u0.heap.size, 0, none⟩ (.int .i64 (lo3 t.wd t.ht t.dp))).setCell ⟨u0.heap.size, 1, none⟩ (.int .i64 (mid3 t.wd t.ht t.dp))).setCell ⟨u0.heap.size, 2, none⟩ (.int .i64 (hi3 t.wd t.ht t.dp))).heap.size := by simpa using Lqu5
                have Kpu6 : Hid (Blk (((u5.setCell ⟨u0.heap.size, 0, none⟩ (.int .i64 (lo3 t.wd t.ht t.dp))).setCell ⟨u0.heap.size, 1, none⟩ (.int .i64 (mid3 t.wd t.ht t.dp))).setCell ⟨u0.heap.size, 2, none⟩ (.int .i64 (hi3 t.wd t.ht t.dp))) u1.heap.size [.int .i64 (lo3 x.wd x.ht x.dp), .int .i64 (mid3 x.wd x.ht x.dp), .int .i64 (hi3 x.wd x.ht x.dp)]) := ((((unhide Kpu5).other Npq).other Npq).other Npq)
                have Lpu6 : u1.heap.size < (((u5.setCell ⟨u0.heap.size, 0, none⟩ (.int .i64 (lo3 t.wd t.ht t.dp))).setCell ⟨u0.heap.size, 1, none⟩ (.int .i64 (mid3 t.wd t.ht t.dp))).setCell ⟨u0.heap.size, 2, none⟩ (.int .i64 (hi3 t.wd t.ht t.dp))).heap.size := by simpa using Lpu5
                clear Kpu5 Lpu5
                clear Kqu5 Lqu5
                generalize (((u5.setCell ⟨u0.heap.size, 0, none⟩ (.int .i64 (lo3 t.wd t.ht t.dp))).setCell ⟨u0.heap.size, 1, none⟩ (.int .i64 (mid3 t.wd t.ht t.dp))).setCell ⟨u0.heap.size, 2, none⟩ (.int .i64 (hi3 t.wd t.ht t.dp))) = u6 at *
                refine wpTo_done (by kernel_rfl) ?_ _
                refine NoPanic.normal ?_
                go_wp2_with fail
                go_meet
                case rel => exact ⟨_, _, rfl, rfl, unhide Kpu6, unhide Kqu6, unhide Bu6⟩
              exact AllTo.nil
            exact AllTo.nil
          exact AllTo.nil
        exact AllTo.nil
      exact AllTo.nil
    exact AllTo.nil
  case rest =>
    obtain ⟨g, h, rfl, rfl, hg, hh, hB⟩ := hcut
    obtain ⟨XL, hXL⟩ : ∃ l, l = srt3 x.wd x.ht x.dp := ⟨_, rfl⟩
    obtain ⟨TL, hTL⟩ : ∃ l, l = srt3 t.wd t.ht t.dp := ⟨_, rfl⟩
    have hg2 : Blk wc g (ci XL) := by rw [hXL]; exact hg
    have hh2 : Blk wc h (ci TL) := by rw [hTL]; exact hh
    have xl : XL.length = 3 := by rw [hXL]; rfl
    have tl : TL.length = 3 := by rw [hTL]; rfl
    have HXL := hide hXL
    have HTL := hide hTL
    have HGR : Hid (∀ w', Below W.heap.size W w' → w'.cell? ⟨G, 4, none⟩ = some (.int .i64 x.gram) ∧ w'.cell? ⟨G + 1, 5, none⟩ = some (.int .i64 t.gram)) := by
      intro w' hb
      exact ⟨(hb.cell (p := ⟨G, 4, none⟩) lt0).trans ((unhide HXX) 4 (by simp)).1, (hb.cell (p := ⟨G + 1, 5, none⟩) lt1).trans ((unhide HTT) 5 (by simp)).1⟩
    have HFIN : Hid (Below w.heap.size w W) := HB
    clear hXL hTL hg hh HXX HTT KS B1 HB HZ lt0 lt1
    go_wp2
    go_loopw [22] (fun i wr => ∃ k : Nat, k ≤ 3 ∧ i = .int .i64 (k : Int) ∧ (∀ m, m < k → XL.getD m 0 ≤ TL.getD m 0) ∧ Blk wr g (ci XL) ∧ Blk wr h (ci TL) ∧ Below W.heap.size W wr) (fun i _ => ((3 : Int) - intOf i).toNat)
    case atStart => exact ⟨0, by omega, rfl, fun m hm => by omega, hg2, hh2, hB⟩
    case round =>
      clear hg2 hh2 hB
      obtain ⟨k, hk, rfl, hle, kg, kh, hb⟩ := hrel
      by_cases hlt : k < 3
      · have c1 := (kg.int k (by omega)).1
        have c2 := (kh.int k (by omega)).1
        have HKG := hide kg
        have HKH := hide kh
        have HBB := hide hb
        have HLE := hide hle
        have i0 : (0 : Int) ≤ (k : Int) := by omega
        have i3 : (k : Int) < 3 := by omega
        clear kg kh hb hle
        generalize hxv : XL.getD k 0 = xv at *
        generalize htv : TL.getD k 0 = tv at *
        have HXV := hide hxv
        have HTV := hide htv
        clear hxv htv
        by_cases hgt : tv < xv
        · go_wp2
          go_quiet (fail)
          go_wp2
          go_ret
          refine ⟨ret_boolF ?_, (unhide HFIN).trans ((below_drewN (unhide HBB) _).mono (unhide HFIN).size)⟩
          refine (fits_not x t ?_).symm
          intro hall
          have := hall k hlt
          rw [← unhide HXL, ← unhide HTL, unhide HXV, unhide HTV] at this
          omega
        · have hle2 : xv ≤ tv := by omega
          go_wp2
          go_quiet (fail)
          go_wp2
          go_roundw
          case rel =>
            refine ⟨k + 1, by omega, by go_num, fun m hm => ?_, (unhide HKG).drewn _, (unhide HKH).drewn _, below_drewN (unhide HBB) _⟩
            by_cases e : m = k
            · subst e; rw [unhide HXV, unhide HTV]; exact hle2
            · exact (unhide HLE) m (by omega)
          case measure => simp [intOf]; omega
      · have hk3 : k = 3 := by omega
        subst hk3
        obtain ⟨c4, c5⟩ := (unhide HGR) _ hb
        have HBB := hide hb
        clear hb kg kh
        go_wp2
        go_ret
        refine ⟨ret_boolF (fits_all x t ?_).symm, (unhide HFIN).trans ((unhide HBB).mono (unhide HFIN).size)⟩
        intro m hm
        rw [← unhide HXL, ← unhide HTL]
        exact hle m hm
end Go.Proofs.YtlakbnpinennnaaGreatDoor
