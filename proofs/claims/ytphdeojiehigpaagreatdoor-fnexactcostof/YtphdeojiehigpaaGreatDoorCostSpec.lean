/- What cartons cost: the model. -/
import Derived.Test.YtphdeojiehigpaaGreatDoorCarPlain
import Derived.Test.YtphdeojiehigpaaGreatDoorPkG
import Derived.Test.YtphdeojiehigpaaGreatDoorLowPlain
import Derived.Test.YtphdeojiehigpaaGreatDoorAppendSome
import Derived.Test.YtphdeojiehigpaaGreatDoorInvR
import Derived.Deep.DeepMust
import Derived.Deep.DeepCutAuto
import Derived.Deep.RegionHeld3
namespace Go.Proofs.YtphdeojiehigpaaGreatDoor
open Go Go.RowKit
set_option linter.unusedVariables false
set_option linter.unusedSimpArgs false

set_option maxRecDepth 100000 in
set_option maxHeartbeats 4000000 in
theorem specCostOf_any (r : ReqV) (h : ReqH) (a : Option Addr) (n c : Nat) (xs : List CarV) (w : World) (hr : RdReq w r h) (hs : r.small) (hx : RdC w a n xs) (hn : n ≤ 1048576) :
    Calls Tryz.prog 17 #[reqVal r h, .slice a n c] w fun e w' => e = .returned (.int .i64 (costR r xs)) ∧ Below w.heap.size w w' := by
  have htl : r.types.length ≤ 1048600 := by unfold ReqV.small at hs; omega
  have HR := hide hr
  have HX := hide hx
  have hxl := hx.1
  clear hr hx
  unfold reqVal
  go_enter Tryz.func17, Tryz.ntmps17
  go_wp2_with fail
  have BW : Hid (Below w.heap.size w (w.alloc (.cells #[.int .i64 r.way, .int .i64 r.pal.wd, .int .i64 r.pal.dp, .int .i64 r.pal.ht, .int .i64 r.pal.gram, .int .i64 r.classes, .slice h.ap r.pairs.length h.cp, .slice h.at' r.types.length h.ct, .int .i64 r.master, .slice h.ai r.items.length h.ci] 40))) := ((Below.refl _ _).alloc (by simp) _)
  have KaW : Hid (Blk (w.alloc (.cells #[.int .i64 r.way, .int .i64 r.pal.wd, .int .i64 r.pal.dp, .int .i64 r.pal.ht, .int .i64 r.pal.gram, .int .i64 r.classes, .slice h.ap r.pairs.length h.cp, .slice h.at' r.types.length h.ct, .int .i64 r.master, .slice h.ai r.items.length h.ci] 40)) w.heap.size [.int .i64 r.way, .int .i64 r.pal.wd, .int .i64 r.pal.dp, .int .i64 r.pal.ht, .int .i64 r.pal.gram, .int .i64 r.classes, .slice h.ap r.pairs.length h.cp, .slice h.at' r.types.length h.ct, .int .i64 r.master, .slice h.ai r.items.length h.ci]) := (Blk.allocAt (w := w) [.int .i64 r.way, .int .i64 r.pal.wd, .int .i64 r.pal.dp, .int .i64 r.pal.ht, .int .i64 r.pal.gram, .int .i64 r.classes, .slice h.ap r.pairs.length h.cp, .slice h.at' r.types.length h.ct, .int .i64 r.master, .slice h.ai r.items.length h.ci] (by simp))
  have ZaW : w.heap.size < (w.alloc (.cells #[.int .i64 r.way, .int .i64 r.pal.wd, .int .i64 r.pal.dp, .int .i64 r.pal.ht, .int .i64 r.pal.gram, .int .i64 r.classes, .slice h.ap r.pairs.length h.cp, .slice h.at' r.types.length h.ct, .int .i64 r.master, .slice h.ai r.items.length h.ci] 40)).heap.size := by simp
  have Ga : w.heap.size ≤ w.heap.size := by omega
  generalize (w.alloc (.cells #[.int .i64 r.way, .int .i64 r.pal.wd, .int .i64 r.pal.dp, .int .i64 r.pal.ht, .int .i64 r.pal.gram, .int .i64 r.classes, .slice h.ap r.pairs.length h.cp, .slice h.at' r.types.length h.ct, .int .i64 r.master, .slice h.ai r.items.length h.ci] 40)) = W at *
  refine (specClass_any r h _ ((unhide HR).mono (unhide BW)) hs).mono ?_
  rintro e v1 ⟨rfl, hb⟩
  have Bv1 := hide ((unhide BW).trans (hb.mono (unhide BW).size))
  have Kav1 := hide (Blk.below hb ZaW (unhide KaW))
  have Zav1 := Nat.lt_of_lt_of_le ZaW hb.size
  clear hb
  clear BW KaW ZaW
  by_cases hz : classI r = 0
  case neg =>
    have hne : (classI r != 0) = true := by simp [hz]
    have HE : Hid (costR r xs = 0) := by simp [Hid, costR, hz]
    clear hz
    go_wp2
    go_ret
    exact ⟨ret_intF (unhide HE).symm, unhide Bv1⟩
  have HCB := hide (fun ys => costTo_bd hz ys)
  have HQB := hide (fun m => byId_bd hz m)
  have HCR : Hid (costR r xs = costTo r xs) := by simp [Hid, costR, hz]
  rw [hz]
  clear hz
  go_wp2_with fail
  go_loopw [5, 6] (fun s i wr => ∃ (k : Nat) (t : Int), k ≤ n ∧ i = .int .i64 k ∧ s = .int .i64 t ∧ t = costTo r (xs.take k) ∧ Blk wr w.heap.size [.int .i64 r.way, .int .i64 r.pal.wd, .int .i64 r.pal.dp, .int .i64 r.pal.ht, .int .i64 r.pal.gram, .int .i64 r.classes, .slice h.ap r.pairs.length h.cp, .slice h.at' r.types.length h.ct, .int .i64 r.master, .slice h.ai r.items.length h.ci] ∧ w.heap.size < wr.heap.size ∧ Below w.heap.size w wr) (fun _ i _ => n - (intOf i).toNat)
  case atStart => exact ⟨0, 0, Nat.zero_le _, rfl, rfl, rfl, unhide Kav1, Zav1, unhide Bv1⟩
  case round =>
    obtain ⟨k, t, hk, rfl, rfl, ht, ka, Zawr, hb⟩ := hrel
    have Kawr := hide ka
    have HT := hide ht
    have Bwr := hide hb
    clear hb ka Kav1 Zav1 Bv1
    by_cases hlk : k < n
    case neg =>
      have HE : Hid (costR r xs = t) := by have h1 := unhide HT; rw [List.take_of_length_le (by omega)] at h1; rw [Hid, unhide HCR, h1]
      clear ht Kawr
      go_wp2
      go_ret
      exact ⟨ret_intF (unhide HE).symm, unhide Bwr⟩
    have htb := (unhide HCB) (xs.take k)
    rw [← ht] at htb
    have hkl : (xs.take k).length ≤ 1048576 := by rw [List.length_take]; omega
    have HST := hide (costTo_step r xs k (by omega))
    rw [← ht] at HST
    obtain ⟨b, off, ai, ci, hxa, hc0, hc1, hc2, hrow⟩ := ((unhide HX).mono (unhide Bwr)).2 k hlk
    subst hxa
    generalize xs.getD k default = q at hc0 hc1 hc2 hrow HST
    have hqb := (unhide HQB) q.ty
    clear ht hrow
    go_upto_region 7 with fail
    have HC0 := hide hc0
    have Bwr0 := hide (Below.refl wr.heap.size wr)
    clear hc0 hc1 hc2
    go_cut [7] (fun v wc => ∃ g, v = .pointer (some ⟨g, 0, none⟩) ∧ Blk wc g [.int .i64 (byIdV r q.ty).id, .int .i64 (byIdV r q.ty).wd, .int .i64 (byIdV r q.ty).ht, .int .i64 (byIdV r q.ty).dp, .int .i64 (byIdV r q.ty).tare, .int .i64 (byIdV r q.ty).gram, .int .i64 (byIdV r q.ty).cost] ∧ g < wc.heap.size ∧ Below wr.heap.size wr wc)
    case first =>
      refine wp_region_noPanic ?_
      have Bu0 : Hid (Below wr.heap.size wr wr.drew) := (unhide Bwr0).drew
      have Kau0 : Hid (Blk wr.drew w.heap.size [.int .i64 r.way, .int .i64 r.pal.wd, .int .i64 r.pal.dp, .int .i64 r.pal.ht, .int .i64 r.pal.gram, .int .i64 r.classes, .slice h.ap r.pairs.length h.cp, .slice h.at' r.types.length h.ct, .int .i64 r.master, .slice h.ai r.items.length h.ci]) := unhide Kawr
      have Zau0 : w.heap.size < wr.drew.heap.size := Zawr
      obtain ⟨S, hSdef⟩ : ∃ S : World → Prop, S = (fun w' => w'.cell? ⟨w.heap.size, 0, none⟩ = some (.int .i64 r.way) ∧ w'.cell? ⟨w.heap.size, 1, none⟩ = some (.int .i64 r.pal.wd) ∧ w'.cell? ⟨w.heap.size, 2, none⟩ = some (.int .i64 r.pal.dp) ∧ w'.cell? ⟨w.heap.size, 3, none⟩ = some (.int .i64 r.pal.ht) ∧ w'.cell? ⟨w.heap.size, 4, none⟩ = some (.int .i64 r.pal.gram) ∧ w'.cell? ⟨w.heap.size, 5, none⟩ = some (.int .i64 r.classes) ∧ w'.cell? ⟨w.heap.size, 6, none⟩ = some (.slice h.ap r.pairs.length h.cp) ∧ w'.cell? ⟨w.heap.size, 7, none⟩ = some (.slice h.at' r.types.length h.ct) ∧ w'.cell? ⟨w.heap.size, 8, none⟩ = some (.int .i64 r.master) ∧ w'.cell? ⟨w.heap.size, 9, none⟩ = some (.slice h.ai r.items.length h.ci) ∧ w'.cell? ⟨b, off + k * 3, none⟩ = some (.int .i64 q.ty)) := ⟨_, rfl⟩
      have hSmk : ∀ wq, Blk wq w.heap.size [.int .i64 r.way, .int .i64 r.pal.wd, .int .i64 r.pal.dp, .int .i64 r.pal.ht, .int .i64 r.pal.gram, .int .i64 r.classes, .slice h.ap r.pairs.length h.cp, .slice h.at' r.types.length h.ct, .int .i64 r.master, .slice h.ai r.items.length h.ci] → (wq.cell? ⟨b, off + k * 3, none⟩ = some (.int .i64 q.ty)) → S wq := fun wq ka p0 => by rw [hSdef]; exact ⟨(ka 0 (by simp)).1, (ka 1 (by simp)).1, (ka 2 (by simp)).1, (ka 3 (by simp)).1, (ka 4 (by simp)).1, (ka 5 (by simp)).1, (ka 6 (by simp)).1, (ka 7 (by simp)).1, (ka 8 (by simp)).1, (ka 9 (by simp)).1, p0⟩
      have hSd : ∀ wq, S wq → (fun w' => w'.cell? ⟨w.heap.size, 0, none⟩ = some (.int .i64 r.way) ∧ w'.cell? ⟨w.heap.size, 1, none⟩ = some (.int .i64 r.pal.wd) ∧ w'.cell? ⟨w.heap.size, 2, none⟩ = some (.int .i64 r.pal.dp) ∧ w'.cell? ⟨w.heap.size, 3, none⟩ = some (.int .i64 r.pal.ht) ∧ w'.cell? ⟨w.heap.size, 4, none⟩ = some (.int .i64 r.pal.gram) ∧ w'.cell? ⟨w.heap.size, 5, none⟩ = some (.int .i64 r.classes) ∧ w'.cell? ⟨w.heap.size, 6, none⟩ = some (.slice h.ap r.pairs.length h.cp) ∧ w'.cell? ⟨w.heap.size, 7, none⟩ = some (.slice h.at' r.types.length h.ct) ∧ w'.cell? ⟨w.heap.size, 8, none⟩ = some (.int .i64 r.master) ∧ w'.cell? ⟨w.heap.size, 9, none⟩ = some (.slice h.ai r.items.length h.ci) ∧ w'.cell? ⟨b, off + k * 3, none⟩ = some (.int .i64 q.ty)) wq := fun wq h => by rw [hSdef] at h; exact h
      clear hSdef
      have hHeld : S wr.drew := hSmk wr.drew (unhide Kau0) (((unhide Bu0).cell (World.block_lt_of_cell? _ _ (unhide HC0))).trans (unhide HC0))
      refine wp_region_to (S := S) (T := []) (by kernel_rfl) hHeld (fun _ => ?_)
      generalize wr.drew = u0 at *
      refine wpTo_tk (i := 0) (v := ?_) rfl (by kernel_rfl) (Or.inl ⟨by rfl, ?_⟩) (by assumption) ?_
      rotate_left
      · intro w hSw
        have hSw := hSd _ hSw
        (try dsimp only at hSw)
        go_simp <;> with_reducible rfl
      refine wpTo_tk (i := 1) (v := ?_) rfl (by kernel_rfl) (Or.inl ⟨by rfl, ?_⟩) (by assumption) ?_
      rotate_left
      · intro w hSw
        have hSw := hSd _ hSw
        (try dsimp only at hSw)
        go_simp <;> with_reducible rfl
      refine wpTo_tk (i := 2) (v := ?_) rfl (by kernel_rfl) (Or.inl ⟨by rfl, ?_⟩) (by assumption) ?_
      rotate_left
      · intro w hSw
        have hSw := hSd _ hSw
        (try dsimp only at hSw)
        go_simp <;> with_reducible rfl
      try simp only [Act.put, List.getElem_toArray, List.getElem_cons_zero, List.getElem_cons_succ, List.setIfInBounds_toArray, List.set_cons_zero, List.set_cons_succ]
      refine wpTo_tk (i := 3) (v := ?_) rfl (by kernel_rfl) (Or.inl ⟨by rfl, ?_⟩) (by assumption) ?_
      rotate_left
      · intro w hSw
        have hSw := hSd _ hSw
        (try dsimp only at hSw)
        go_simp <;> with_reducible rfl
      refine wpTo_tk (i := 4) (v := ?_) rfl (by kernel_rfl) (Or.inl ⟨by rfl, ?_⟩) (by assumption) ?_
      rotate_left
      · intro w hSw
        have hSw := hSd _ hSw
        (try dsimp only at hSw)
        go_simp <;> with_reducible rfl
      refine wpTo_tk (i := 5) (v := ?_) rfl (by kernel_rfl) (Or.inl ⟨by rfl, ?_⟩) (by assumption) ?_
      rotate_left
      · intro w hSw
        have hSw := hSd _ hSw
        (try dsimp only at hSw)
        go_simp <;> with_reducible rfl
      try simp only [Act.put, List.getElem_toArray, List.getElem_cons_zero, List.getElem_cons_succ, List.setIfInBounds_toArray, List.set_cons_zero, List.set_cons_succ]
      refine wpTo_ready (rs := [6, 10]) (by kernel_rfl) (by simp) ?_
      refine AllTo.cons (o := _) rfl (fun K hK => ?_) ?_
      ·
       (try simp only [List.getElem_toArray, List.getElem_cons_zero, List.getElem_cons_succ])
       go_simp
       refine (specTypeById_any r h q.ty u0 ((unhide HR).mono ((unhide Bwr).trans ((unhide Bu0).mono (unhide Bwr).size))) htl).mono ?_
       rintro e u1 ⟨rfl, hb⟩
       have Bu1 := hide ((unhide Bu0).trans (hb.mono (unhide Bu0).size))
       have Kau1 := hide (Blk.below hb Zau0 (unhide Kau0))
       have Zau1 := Nat.lt_of_lt_of_le Zau0 hb.size
       clear hb
       clear Bu0 Kau0 Zau0
       clear hHeld
       go_wp2_with fail
       have hHeld := hSmk u1 (unhide Kau1) (((unhide Bu1).cell (World.block_lt_of_cell? _ _ (unhide HC0))).trans (unhide HC0))
       refine hK.out _ _ (fun _ => hHeld) ?_
       clear hK K
       try simp only [Act.put, List.getElem_toArray, List.getElem_cons_zero, List.getElem_cons_succ, List.setIfInBounds_toArray, List.set_cons_zero, List.set_cons_succ]
       refine wpTo_tk (i := 7) (v := ?_) rfl (by kernel_rfl) (Or.inl ⟨by rfl, ?_⟩) (by assumption) ?_
       rotate_left
       · intro w hSw
         have hSw := hSd _ hSw
         (try dsimp only at hSw)
         go_simp <;> with_reducible rfl
       try simp only [Act.put, List.getElem_toArray, List.getElem_cons_zero, List.getElem_cons_succ, List.setIfInBounds_toArray, List.set_cons_zero, List.set_cons_succ]
       refine wpTo_tk (i := 8) (v := ?_) rfl (by kernel_rfl) (Or.inl ⟨by rfl, ?_⟩) (by assumption) ?_
       rotate_left
       · intro w hSw
         have hSw := hSd _ hSw
         (try dsimp only at hSw)
         go_simp <;> with_reducible rfl
       refine wpTo_tk (i := 9) (v := ?_) rfl (by kernel_rfl) (Or.inl ⟨by rfl, ?_⟩) (by assumption) ?_
       rotate_left
       · intro w hSw
         have hSw := hSd _ hSw
         (try dsimp only at hSw)
         go_simp <;> with_reducible rfl
       try simp only [Act.put, List.getElem_toArray, List.getElem_cons_zero, List.getElem_cons_succ, List.setIfInBounds_toArray, List.set_cons_zero, List.set_cons_succ]
       refine wpTo_ready (rs := [10]) (by kernel_rfl) (by simp) ?_
       refine AllTo.cons (o := _) rfl (fun K hK => ?_) ?_
       ·
        (try simp only [List.getElem_toArray, List.getElem_cons_zero, List.getElem_cons_succ])
        have Bu2 := hide ((unhide Bu1).alloc (unhide Bu1).size (.cells #[.int .i64 0, .int .i64 0, .int .i64 0, .int .i64 0, .int .i64 0, .int .i64 0, .int .i64 0] 55))
        have Ktu2 : Hid (Blk (u1.alloc (.cells #[.int .i64 0, .int .i64 0, .int .i64 0, .int .i64 0, .int .i64 0, .int .i64 0, .int .i64 0] 55)) u1.heap.size [.int .i64 0, .int .i64 0, .int .i64 0, .int .i64 0, .int .i64 0, .int .i64 0, .int .i64 0]) := Blk.allocAt [.int .i64 0, .int .i64 0, .int .i64 0, .int .i64 0, .int .i64 0, .int .i64 0, .int .i64 0] rfl
        have Ztu2 := lt_alloc_new u1 (.cells #[.int .i64 0, .int .i64 0, .int .i64 0, .int .i64 0, .int .i64 0, .int .i64 0, .int .i64 0] 55)
        have Gt : wr.heap.size ≤ u1.heap.size := (unhide Bu1).size
        have Kau2 := hide ((unhide Kau1).allocOld Zau1 (.cells #[.int .i64 0, .int .i64 0, .int .i64 0, .int .i64 0, .int .i64 0, .int .i64 0, .int .i64 0] 55))
        have Zau2 := lt_alloc Zau1 (.cells #[.int .i64 0, .int .i64 0, .int .i64 0, .int .i64 0, .int .i64 0, .int .i64 0, .int .i64 0] 55)
        have Nqat : w.heap.size ≠ u1.heap.size := Nat.ne_of_lt Zau1
        have Nqta := Ne.symm Nqat
        go_simp
        clear hHeld
        clear Bu1 Kau1 Zau1
        generalize (u1.alloc (.cells #[.int .i64 0, .int .i64 0, .int .i64 0, .int .i64 0, .int .i64 0, .int .i64 0, .int .i64 0] 55)) = u2 at *
        have hHeld := hSmk u2 (unhide Kau2) (((unhide Bu2).cell (World.block_lt_of_cell? _ _ (unhide HC0))).trans (unhide HC0))
        refine hK.out _ _ (fun _ => hHeld) ?_
        clear hK K
        try simp only [Act.put, List.getElem_toArray, List.getElem_cons_zero, List.getElem_cons_succ, List.setIfInBounds_toArray, List.set_cons_zero, List.set_cons_succ]
        refine wpTo_ready (rs := [11]) (by kernel_rfl) (by simp) ?_
        refine AllTo.cons (o := _) rfl (fun K hK => ?_) ?_
        ·
         (try simp only [List.getElem_toArray, List.getElem_cons_zero, List.getElem_cons_succ])
         have p0 := ((unhide Ktu2) 0 (by simp)).1
         have q0 := ((unhide Ktu2) 0 (by simp)).2
         have p1 := ((unhide Ktu2) 1 (by simp)).1
         have q1 := ((unhide Ktu2) 1 (by simp)).2
         have p2 := ((unhide Ktu2) 2 (by simp)).1
         have q2 := ((unhide Ktu2) 2 (by simp)).2
         have p3 := ((unhide Ktu2) 3 (by simp)).1
         have q3 := ((unhide Ktu2) 3 (by simp)).2
         have p4 := ((unhide Ktu2) 4 (by simp)).1
         have q4 := ((unhide Ktu2) 4 (by simp)).2
         have p5 := ((unhide Ktu2) 5 (by simp)).1
         have q5 := ((unhide Ktu2) 5 (by simp)).2
         have p6 := ((unhide Ktu2) 6 (by simp)).1
         have q6 := ((unhide Ktu2) 6 (by simp)).2
         go_simp
         clear p0 q0 p1 q1 p2 q2 p3 q3 p4 q4 p5 q5 p6 q6
         have Bu3 : Hid (Below wr.heap.size wr (((((((u2.setCell ⟨u1.heap.size, 0, none⟩ (.int .i64 (byIdV r q.ty).id)).setCell ⟨u1.heap.size, 1, none⟩ (.int .i64 (byIdV r q.ty).wd)).setCell ⟨u1.heap.size, 2, none⟩ (.int .i64 (byIdV r q.ty).ht)).setCell ⟨u1.heap.size, 3, none⟩ (.int .i64 (byIdV r q.ty).dp)).setCell ⟨u1.heap.size, 4, none⟩ (.int .i64 (byIdV r q.ty).tare)).setCell ⟨u1.heap.size, 5, none⟩ (.int .i64 (byIdV r q.ty).gram)).setCell ⟨u1.heap.size, 6, none⟩ (.int .i64 (byIdV r q.ty).cost))) := ((((((((unhide Bu2).setCell Gt _).setCell Gt _).setCell Gt _).setCell Gt _).setCell Gt _).setCell Gt _).setCell Gt _)
         have Ktu3 : Hid (Blk (((((((u2.setCell ⟨u1.heap.size, 0, none⟩ (.int .i64 (byIdV r q.ty).id)).setCell ⟨u1.heap.size, 1, none⟩ (.int .i64 (byIdV r q.ty).wd)).setCell ⟨u1.heap.size, 2, none⟩ (.int .i64 (byIdV r q.ty).ht)).setCell ⟨u1.heap.size, 3, none⟩ (.int .i64 (byIdV r q.ty).dp)).setCell ⟨u1.heap.size, 4, none⟩ (.int .i64 (byIdV r q.ty).tare)).setCell ⟨u1.heap.size, 5, none⟩ (.int .i64 (byIdV r q.ty).gram)).setCell ⟨u1.heap.size, 6, none⟩ (.int .i64 (byIdV r q.ty).cost)) u1.heap.size [.int .i64 (byIdV r q.ty).id, .int .i64 (byIdV r q.ty).wd, .int .i64 (byIdV r q.ty).ht, .int .i64 (byIdV r q.ty).dp, .int .i64 (byIdV r q.ty).tare, .int .i64 (byIdV r q.ty).gram, .int .i64 (byIdV r q.ty).cost]) := Blk.fill7 (unhide Ktu2)
         have Ztu3 : u1.heap.size < (((((((u2.setCell ⟨u1.heap.size, 0, none⟩ (.int .i64 (byIdV r q.ty).id)).setCell ⟨u1.heap.size, 1, none⟩ (.int .i64 (byIdV r q.ty).wd)).setCell ⟨u1.heap.size, 2, none⟩ (.int .i64 (byIdV r q.ty).ht)).setCell ⟨u1.heap.size, 3, none⟩ (.int .i64 (byIdV r q.ty).dp)).setCell ⟨u1.heap.size, 4, none⟩ (.int .i64 (byIdV r q.ty).tare)).setCell ⟨u1.heap.size, 5, none⟩ (.int .i64 (byIdV r q.ty).gram)).setCell ⟨u1.heap.size, 6, none⟩ (.int .i64 (byIdV r q.ty).cost)).heap.size := by simpa using Ztu2
         have Kau3 : Hid (Blk (((((((u2.setCell ⟨u1.heap.size, 0, none⟩ (.int .i64 (byIdV r q.ty).id)).setCell ⟨u1.heap.size, 1, none⟩ (.int .i64 (byIdV r q.ty).wd)).setCell ⟨u1.heap.size, 2, none⟩ (.int .i64 (byIdV r q.ty).ht)).setCell ⟨u1.heap.size, 3, none⟩ (.int .i64 (byIdV r q.ty).dp)).setCell ⟨u1.heap.size, 4, none⟩ (.int .i64 (byIdV r q.ty).tare)).setCell ⟨u1.heap.size, 5, none⟩ (.int .i64 (byIdV r q.ty).gram)).setCell ⟨u1.heap.size, 6, none⟩ (.int .i64 (byIdV r q.ty).cost)) w.heap.size [.int .i64 r.way, .int .i64 r.pal.wd, .int .i64 r.pal.dp, .int .i64 r.pal.ht, .int .i64 r.pal.gram, .int .i64 r.classes, .slice h.ap r.pairs.length h.cp, .slice h.at' r.types.length h.ct, .int .i64 r.master, .slice h.ai r.items.length h.ci]) := ((((((((unhide Kau2).other Nqat).other Nqat).other Nqat).other Nqat).other Nqat).other Nqat).other Nqat)
         have Zau3 : w.heap.size < (((((((u2.setCell ⟨u1.heap.size, 0, none⟩ (.int .i64 (byIdV r q.ty).id)).setCell ⟨u1.heap.size, 1, none⟩ (.int .i64 (byIdV r q.ty).wd)).setCell ⟨u1.heap.size, 2, none⟩ (.int .i64 (byIdV r q.ty).ht)).setCell ⟨u1.heap.size, 3, none⟩ (.int .i64 (byIdV r q.ty).dp)).setCell ⟨u1.heap.size, 4, none⟩ (.int .i64 (byIdV r q.ty).tare)).setCell ⟨u1.heap.size, 5, none⟩ (.int .i64 (byIdV r q.ty).gram)).setCell ⟨u1.heap.size, 6, none⟩ (.int .i64 (byIdV r q.ty).cost)).heap.size := by simpa using Zau2
         clear hHeld
         clear Bu2 Kau2 Zau2 Ktu2 Ztu2
         generalize (((((((u2.setCell ⟨u1.heap.size, 0, none⟩ (.int .i64 (byIdV r q.ty).id)).setCell ⟨u1.heap.size, 1, none⟩ (.int .i64 (byIdV r q.ty).wd)).setCell ⟨u1.heap.size, 2, none⟩ (.int .i64 (byIdV r q.ty).ht)).setCell ⟨u1.heap.size, 3, none⟩ (.int .i64 (byIdV r q.ty).dp)).setCell ⟨u1.heap.size, 4, none⟩ (.int .i64 (byIdV r q.ty).tare)).setCell ⟨u1.heap.size, 5, none⟩ (.int .i64 (byIdV r q.ty).gram)).setCell ⟨u1.heap.size, 6, none⟩ (.int .i64 (byIdV r q.ty).cost)) = u3 at *
         have hHeld := hSmk u3 (unhide Kau3) (((unhide Bu3).cell (World.block_lt_of_cell? _ _ (unhide HC0))).trans (unhide HC0))
         refine hK.out _ _ (fun _ => hHeld) ?_
         clear hK K
         try simp only [Act.put, List.getElem_toArray, List.getElem_cons_zero, List.getElem_cons_succ, List.setIfInBounds_toArray, List.set_cons_zero, List.set_cons_succ]
         refine wpTo_tk (i := 12) (v := ?_) rfl (by kernel_rfl) (Or.inl ⟨by rfl, ?_⟩) (by assumption) ?_
         rotate_left
         · intro w hSw
           have hSw := hSd _ hSw
           (try dsimp only at hSw)
           go_simp <;> with_reducible rfl
         try simp only [Act.put, List.getElem_toArray, List.getElem_cons_zero, List.getElem_cons_succ, List.setIfInBounds_toArray, List.set_cons_zero, List.set_cons_succ]
         refine wpTo_done (by kernel_rfl) ?_ _
         refine NoPanic.normal ?_
         go_wp2_with fail
         go_meet
         case rel => exact ⟨_, rfl, unhide Ktu3, Ztu3, unhide Bu3⟩
        exact AllTo.nil
       exact AllTo.nil
      refine AllTo.cons (o := _) rfl (fun K hK => ?_) ?_
      ·
       (try simp only [List.getElem_toArray, List.getElem_cons_zero, List.getElem_cons_succ])
       have Bu1 := hide ((unhide Bu0).alloc (unhide Bu0).size (.cells #[.int .i64 0, .int .i64 0, .int .i64 0, .int .i64 0, .int .i64 0, .int .i64 0, .int .i64 0] 55))
       have Ktu1 : Hid (Blk (u0.alloc (.cells #[.int .i64 0, .int .i64 0, .int .i64 0, .int .i64 0, .int .i64 0, .int .i64 0, .int .i64 0] 55)) u0.heap.size [.int .i64 0, .int .i64 0, .int .i64 0, .int .i64 0, .int .i64 0, .int .i64 0, .int .i64 0]) := Blk.allocAt [.int .i64 0, .int .i64 0, .int .i64 0, .int .i64 0, .int .i64 0, .int .i64 0, .int .i64 0] rfl
       have Ztu1 := lt_alloc_new u0 (.cells #[.int .i64 0, .int .i64 0, .int .i64 0, .int .i64 0, .int .i64 0, .int .i64 0, .int .i64 0] 55)
       have Gt : wr.heap.size ≤ u0.heap.size := (unhide Bu0).size
       have Kau1 := hide ((unhide Kau0).allocOld Zau0 (.cells #[.int .i64 0, .int .i64 0, .int .i64 0, .int .i64 0, .int .i64 0, .int .i64 0, .int .i64 0] 55))
       have Zau1 := lt_alloc Zau0 (.cells #[.int .i64 0, .int .i64 0, .int .i64 0, .int .i64 0, .int .i64 0, .int .i64 0, .int .i64 0] 55)
       have Nqat : w.heap.size ≠ u0.heap.size := Nat.ne_of_lt Zau0
       have Nqta := Ne.symm Nqat
       go_simp
       clear hHeld
       clear Bu0 Kau0 Zau0
       generalize (u0.alloc (.cells #[.int .i64 0, .int .i64 0, .int .i64 0, .int .i64 0, .int .i64 0, .int .i64 0, .int .i64 0] 55)) = u1 at *
       have hHeld := hSmk u1 (unhide Kau1) (((unhide Bu1).cell (World.block_lt_of_cell? _ _ (unhide HC0))).trans (unhide HC0))
       refine hK.out _ _ (fun _ => hHeld) ?_
       clear hK K
       try simp only [Act.put, List.getElem_toArray, List.getElem_cons_zero, List.getElem_cons_succ, List.setIfInBounds_toArray, List.set_cons_zero, List.set_cons_succ]
       refine wpTo_ready (rs := [6]) (by kernel_rfl) (by simp) ?_
       refine AllTo.cons (o := _) rfl (fun K hK => ?_) ?_
       ·
        (try simp only [List.getElem_toArray, List.getElem_cons_zero, List.getElem_cons_succ])
        go_simp
        refine (specTypeById_any r h q.ty u1 ((unhide HR).mono ((unhide Bwr).trans ((unhide Bu1).mono (unhide Bwr).size))) htl).mono ?_
        rintro e u2 ⟨rfl, hb⟩
        have Bu2 := hide ((unhide Bu1).trans (hb.mono (unhide Bu1).size))
        have Kau2 := hide (Blk.below hb Zau1 (unhide Kau1))
        have Zau2 := Nat.lt_of_lt_of_le Zau1 hb.size
        have Ktu2 := hide (Blk.below hb Ztu1 (unhide Ktu1))
        have Ztu2 := Nat.lt_of_lt_of_le Ztu1 hb.size
        clear hb
        clear Bu1 Kau1 Zau1 Ktu1 Ztu1
        clear hHeld
        go_wp2_with fail
        have hHeld := hSmk u2 (unhide Kau2) (((unhide Bu2).cell (World.block_lt_of_cell? _ _ (unhide HC0))).trans (unhide HC0))
        refine hK.out _ _ (fun _ => hHeld) ?_
        clear hK K
        try simp only [Act.put, List.getElem_toArray, List.getElem_cons_zero, List.getElem_cons_succ, List.setIfInBounds_toArray, List.set_cons_zero, List.set_cons_succ]
        refine wpTo_tk (i := 7) (v := ?_) rfl (by kernel_rfl) (Or.inl ⟨by rfl, ?_⟩) (by assumption) ?_
        rotate_left
        · intro w hSw
          have hSw := hSd _ hSw
          (try dsimp only at hSw)
          go_simp <;> with_reducible rfl
        refine wpTo_tk (i := 8) (v := ?_) rfl (by kernel_rfl) (Or.inl ⟨by rfl, ?_⟩) (by assumption) ?_
        rotate_left
        · intro w hSw
          have hSw := hSd _ hSw
          (try dsimp only at hSw)
          go_simp <;> with_reducible rfl
        try simp only [Act.put, List.getElem_toArray, List.getElem_cons_zero, List.getElem_cons_succ, List.setIfInBounds_toArray, List.set_cons_zero, List.set_cons_succ]
        refine wpTo_tk (i := 9) (v := ?_) rfl (by kernel_rfl) (Or.inl ⟨by rfl, ?_⟩) (by assumption) ?_
        rotate_left
        · intro w hSw
          have hSw := hSd _ hSw
          (try dsimp only at hSw)
          go_simp <;> with_reducible rfl
        try simp only [Act.put, List.getElem_toArray, List.getElem_cons_zero, List.getElem_cons_succ, List.setIfInBounds_toArray, List.set_cons_zero, List.set_cons_succ]
        refine wpTo_ready (rs := [11]) (by kernel_rfl) (by simp) ?_
        refine AllTo.cons (o := _) rfl (fun K hK => ?_) ?_
        ·
         (try simp only [List.getElem_toArray, List.getElem_cons_zero, List.getElem_cons_succ])
         have p0 := ((unhide Ktu2) 0 (by simp)).1
         have q0 := ((unhide Ktu2) 0 (by simp)).2
         have p1 := ((unhide Ktu2) 1 (by simp)).1
         have q1 := ((unhide Ktu2) 1 (by simp)).2
         have p2 := ((unhide Ktu2) 2 (by simp)).1
         have q2 := ((unhide Ktu2) 2 (by simp)).2
         have p3 := ((unhide Ktu2) 3 (by simp)).1
         have q3 := ((unhide Ktu2) 3 (by simp)).2
         have p4 := ((unhide Ktu2) 4 (by simp)).1
         have q4 := ((unhide Ktu2) 4 (by simp)).2
         have p5 := ((unhide Ktu2) 5 (by simp)).1
         have q5 := ((unhide Ktu2) 5 (by simp)).2
         have p6 := ((unhide Ktu2) 6 (by simp)).1
         have q6 := ((unhide Ktu2) 6 (by simp)).2
         go_simp
         clear p0 q0 p1 q1 p2 q2 p3 q3 p4 q4 p5 q5 p6 q6
         have Bu3 : Hid (Below wr.heap.size wr (((((((u2.setCell ⟨u0.heap.size, 0, none⟩ (.int .i64 (byIdV r q.ty).id)).setCell ⟨u0.heap.size, 1, none⟩ (.int .i64 (byIdV r q.ty).wd)).setCell ⟨u0.heap.size, 2, none⟩ (.int .i64 (byIdV r q.ty).ht)).setCell ⟨u0.heap.size, 3, none⟩ (.int .i64 (byIdV r q.ty).dp)).setCell ⟨u0.heap.size, 4, none⟩ (.int .i64 (byIdV r q.ty).tare)).setCell ⟨u0.heap.size, 5, none⟩ (.int .i64 (byIdV r q.ty).gram)).setCell ⟨u0.heap.size, 6, none⟩ (.int .i64 (byIdV r q.ty).cost))) := ((((((((unhide Bu2).setCell Gt _).setCell Gt _).setCell Gt _).setCell Gt _).setCell Gt _).setCell Gt _).setCell Gt _)
         have Ktu3 : Hid (Blk (((((((u2.setCell ⟨u0.heap.size, 0, none⟩ (.int .i64 (byIdV r q.ty).id)).setCell ⟨u0.heap.size, 1, none⟩ (.int .i64 (byIdV r q.ty).wd)).setCell ⟨u0.heap.size, 2, none⟩ (.int .i64 (byIdV r q.ty).ht)).setCell ⟨u0.heap.size, 3, none⟩ (.int .i64 (byIdV r q.ty).dp)).setCell ⟨u0.heap.size, 4, none⟩ (.int .i64 (byIdV r q.ty).tare)).setCell ⟨u0.heap.size, 5, none⟩ (.int .i64 (byIdV r q.ty).gram)).setCell ⟨u0.heap.size, 6, none⟩ (.int .i64 (byIdV r q.ty).cost)) u0.heap.size [.int .i64 (byIdV r q.ty).id, .int .i64 (byIdV r q.ty).wd, .int .i64 (byIdV r q.ty).ht, .int .i64 (byIdV r q.ty).dp, .int .i64 (byIdV r q.ty).tare, .int .i64 (byIdV r q.ty).gram, .int .i64 (byIdV r q.ty).cost]) := Blk.fill7 (unhide Ktu2)
         have Ztu3 : u0.heap.size < (((((((u2.setCell ⟨u0.heap.size, 0, none⟩ (.int .i64 (byIdV r q.ty).id)).setCell ⟨u0.heap.size, 1, none⟩ (.int .i64 (byIdV r q.ty).wd)).setCell ⟨u0.heap.size, 2, none⟩ (.int .i64 (byIdV r q.ty).ht)).setCell ⟨u0.heap.size, 3, none⟩ (.int .i64 (byIdV r q.ty).dp)).setCell ⟨u0.heap.size, 4, none⟩ (.int .i64 (byIdV r q.ty).tare)).setCell ⟨u0.heap.size, 5, none⟩ (.int .i64 (byIdV r q.ty).gram)).setCell ⟨u0.heap.size, 6, none⟩ (.int .i64 (byIdV r q.ty).cost)).heap.size := by simpa using Ztu2
         have Kau3 : Hid (Blk (((((((u2.setCell ⟨u0.heap.size, 0, none⟩ (.int .i64 (byIdV r q.ty).id)).setCell ⟨u0.heap.size, 1, none⟩ (.int .i64 (byIdV r q.ty).wd)).setCell ⟨u0.heap.size, 2, none⟩ (.int .i64 (byIdV r q.ty).ht)).setCell ⟨u0.heap.size, 3, none⟩ (.int .i64 (byIdV r q.ty).dp)).setCell ⟨u0.heap.size, 4, none⟩ (.int .i64 (byIdV r q.ty).tare)).setCell ⟨u0.heap.size, 5, none⟩ (.int .i64 (byIdV r q.ty).gram)).setCell ⟨u0.heap.size, 6, none⟩ (.int .i64 (byIdV r q.ty).cost)) w.heap.size [.int .i64 r.way, .int .i64 r.pal.wd, .int .i64 r.pal.dp, .int .i64 r.pal.ht, .int .i64 r.pal.gram, .int .i64 r.classes, .slice h.ap r.pairs.length h.cp, .slice h.at' r.types.length h.ct, .int .i64 r.master, .slice h.ai r.items.length h.ci]) := ((((((((unhide Kau2).other Nqat).other Nqat).other Nqat).other Nqat).other Nqat).other Nqat).other Nqat)
         have Zau3 : w.heap.size < (((((((u2.setCell ⟨u0.heap.size, 0, none⟩ (.int .i64 (byIdV r q.ty).id)).setCell ⟨u0.heap.size, 1, none⟩ (.int .i64 (byIdV r q.ty).wd)).setCell ⟨u0.heap.size, 2, none⟩ (.int .i64 (byIdV r q.ty).ht)).setCell ⟨u0.heap.size, 3, none⟩ (.int .i64 (byIdV r q.ty).dp)).setCell ⟨u0.heap.size, 4, none⟩ (.int .i64 (byIdV r q.ty).tare)).setCell ⟨u0.heap.size, 5, none⟩ (.int .i64 (byIdV r q.ty).gram)).setCell ⟨u0.heap.size, 6, none⟩ (.int .i64 (byIdV r q.ty).cost)).heap.size := by simpa using Zau2
         clear hHeld
         clear Bu2 Kau2 Zau2 Ktu2 Ztu2
         generalize (((((((u2.setCell ⟨u0.heap.size, 0, none⟩ (.int .i64 (byIdV r q.ty).id)).setCell ⟨u0.heap.size, 1, none⟩ (.int .i64 (byIdV r q.ty).wd)).setCell ⟨u0.heap.size, 2, none⟩ (.int .i64 (byIdV r q.ty).ht)).setCell ⟨u0.heap.size, 3, none⟩ (.int .i64 (byIdV r q.ty).dp)).setCell ⟨u0.heap.size, 4, none⟩ (.int .i64 (byIdV r q.ty).tare)).setCell ⟨u0.heap.size, 5, none⟩ (.int .i64 (byIdV r q.ty).gram)).setCell ⟨u0.heap.size, 6, none⟩ (.int .i64 (byIdV r q.ty).cost)) = u3 at *
         have hHeld := hSmk u3 (unhide Kau3) (((unhide Bu3).cell (World.block_lt_of_cell? _ _ (unhide HC0))).trans (unhide HC0))
         refine hK.out _ _ (fun _ => hHeld) ?_
         clear hK K
         try simp only [Act.put, List.getElem_toArray, List.getElem_cons_zero, List.getElem_cons_succ, List.setIfInBounds_toArray, List.set_cons_zero, List.set_cons_succ]
         refine wpTo_tk (i := 12) (v := ?_) rfl (by kernel_rfl) (Or.inl ⟨by rfl, ?_⟩) (by assumption) ?_
         rotate_left
         · intro w hSw
           have hSw := hSd _ hSw
           (try dsimp only at hSw)
           go_simp <;> with_reducible rfl
         try simp only [Act.put, List.getElem_toArray, List.getElem_cons_zero, List.getElem_cons_succ, List.setIfInBounds_toArray, List.set_cons_zero, List.set_cons_succ]
         refine wpTo_done (by kernel_rfl) ?_ _
         refine NoPanic.normal ?_
         go_wp2_with fail
         go_meet
         case rel => exact ⟨_, rfl, unhide Ktu3, Ztu3, unhide Bu3⟩
        exact AllTo.nil
       exact AllTo.nil
      exact AllTo.nil
    case rest =>
      obtain ⟨g, rfl, kt, hzt, hb⟩ := hcut
      have HB := hide ((unhide Bwr).trans (hb.mono (unhide Bwr).size))
      have KA := hide (Blk.below hb Zawr (unhide Kawr))
      have ZA := Nat.lt_of_lt_of_le Zawr hb.size
      have KT := hide kt
      clear hb kt HC0 Bwr0
      have d6 : wc.cell? ⟨g, 6, none⟩ = some (.int .i64 (byIdV r q.ty).cost) := ((unhide KT) 6 (by simp)).1
      go_wp2_with fail
      go_roundw
      case rel => exact ⟨k + 1, _, by omega, by go_num, rfl, (unhide HST).symm, unhide KA, ZA, unhide HB⟩
      case measure => simp [intOf]; omega
end Go.Proofs.YtphdeojiehigpaaGreatDoor
