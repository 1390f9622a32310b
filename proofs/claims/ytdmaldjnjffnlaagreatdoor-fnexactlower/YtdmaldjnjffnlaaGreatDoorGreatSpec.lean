/- LowerGreat of the model. -/
import Derived.Test.YtdmaldjnjffnlaaGreatDoorLowSpec
import Derived.Deep.DeepMust
import Derived.Deep.DeepCutAuto
import Derived.Deep.RegionHeld3
namespace Go.Proofs.YtdmaldjnjffnlaaGreatDoor
open Go Go.RowKit
set_option linter.unusedVariables false
set_option linter.unusedSimpArgs false

theorem l1Bit_true (w : World) : Calls Tryz.prog 61 #[.bool true] w fun e w' => e = .returned (.int .i64 1) ∧ w' = w := by
  go_enter Tryz.func61, Tryz.ntmps61
  go_wp2
  go_ret
  exact ⟨rfl, rfl⟩
theorem l1Bit_false (w : World) : Calls Tryz.prog 61 #[.bool false] w fun e w' => e = .returned (.int .i64 0) ∧ w' = w := by
  go_enter Tryz.func61, Tryz.ntmps61
  go_wp2
  go_ret
  exact ⟨rfl, rfl⟩
theorem Rd.oneP {w : World} {b off : Nat} {x : Int} (h : w.cell? ⟨b, off, none⟩ = some (.int .i64 x)) : Rd w (some ⟨b, off, none⟩) 1 [x] := ⟨rfl, fun i hi => by
  obtain rfl : i = 0 := by omega
  exact ⟨b, off, rfl, h⟩⟩
theorem wide_known {r : ReqV} (hz : classI r = 0) (u : Int) (h : wideB r u = true) : knownB (itemsR r) u = true := by
  cases hk : knownB (itemsR r) u
  · have h1 : volAt (itemsR r) u = 0 := by rw [volAt, itemAt_out hk]; rfl
    have h2 := (most_pos hz).1
    unfold wideB at h
    rw [h1, decide_eq_true_eq] at h
    omega
  · rfl
theorem heavy_known {r : ReqV} (hz : classI r = 0) (u : Int) (h : heavyB r u = true) : knownB (itemsR r) u = true := by
  cases hk : knownB (itemsR r) u
  · have h1 : gramAt (itemsR r) u = 0 := by rw [gramAt, itemAt_out hk]; rfl
    have h2 := (most_pos hz).2.2.1
    unfold heavyB at h
    rw [h1, decide_eq_true_eq] at h
    omega
  · rfl
set_option maxRecDepth 100000 in
set_option maxHeartbeats 4000000 in
theorem specLowerGreat_any (r : ReqV) (h : ReqH) (a : Option Addr) (n c : Nat) (us : List Int) (w : World) (hr : RdReq w r h) (hs : r.small) (hu : Rd w a n us) (hn : n ≤ 1048576) (hnc : n ≤ c) :
    Calls Tryz.prog 27 #[reqVal r h, .slice a n c] w fun e w' => e = .returned (.int .i64 (lowGreat r us)) ∧ Below w.heap.size w w' := by
  have htl : r.types.length ≤ 1048600 := by unfold ReqV.small at hs; omega
  have HR := hide hr
  have HU := hide hu
  have hul := hu.1
  clear hr hu
  unfold reqVal
  go_enter Tryz.func27, Tryz.ntmps27
  go_wp2_with fail
  have BW : Hid (Below w.heap.size w (w.alloc (.cells #[.int .i64 r.way, .int .i64 r.pal.wd, .int .i64 r.pal.dp, .int .i64 r.pal.ht, .int .i64 r.pal.gram, .int .i64 r.classes, .slice h.ap r.pairs.length h.cp, .slice h.at' r.types.length h.ct, .int .i64 r.master, .slice h.ai r.items.length h.ci] 38))) := ((Below.refl _ _).alloc (by simp) _)
  have KaW : Hid (Blk (w.alloc (.cells #[.int .i64 r.way, .int .i64 r.pal.wd, .int .i64 r.pal.dp, .int .i64 r.pal.ht, .int .i64 r.pal.gram, .int .i64 r.classes, .slice h.ap r.pairs.length h.cp, .slice h.at' r.types.length h.ct, .int .i64 r.master, .slice h.ai r.items.length h.ci] 38)) w.heap.size [.int .i64 r.way, .int .i64 r.pal.wd, .int .i64 r.pal.dp, .int .i64 r.pal.ht, .int .i64 r.pal.gram, .int .i64 r.classes, .slice h.ap r.pairs.length h.cp, .slice h.at' r.types.length h.ct, .int .i64 r.master, .slice h.ai r.items.length h.ci]) := (Blk.allocAt (w := w) [.int .i64 r.way, .int .i64 r.pal.wd, .int .i64 r.pal.dp, .int .i64 r.pal.ht, .int .i64 r.pal.gram, .int .i64 r.classes, .slice h.ap r.pairs.length h.cp, .slice h.at' r.types.length h.ct, .int .i64 r.master, .slice h.ai r.items.length h.ci] (by simp))
  have ZaW : w.heap.size < (w.alloc (.cells #[.int .i64 r.way, .int .i64 r.pal.wd, .int .i64 r.pal.dp, .int .i64 r.pal.ht, .int .i64 r.pal.gram, .int .i64 r.classes, .slice h.ap r.pairs.length h.cp, .slice h.at' r.types.length h.ct, .int .i64 r.master, .slice h.ai r.items.length h.ci] 38)).heap.size := by simp
  have Ga : w.heap.size ≤ w.heap.size := by omega
  generalize (w.alloc (.cells #[.int .i64 r.way, .int .i64 r.pal.wd, .int .i64 r.pal.dp, .int .i64 r.pal.ht, .int .i64 r.pal.gram, .int .i64 r.classes, .slice h.ap r.pairs.length h.cp, .slice h.at' r.types.length h.ct, .int .i64 r.master, .slice h.ai r.items.length h.ci] 38)) = W at *
  refine (specClass_any r h _ ((unhide HR).mono (unhide BW)) hs).mono ?_
  rintro e v1 ⟨rfl, hb⟩
  have Bv1 := hide ((unhide BW).trans (hb.mono (unhide BW).size))
  have Kav1 := hide (Blk.below hb ZaW (unhide KaW))
  have Zav1 := Nat.lt_of_lt_of_le ZaW hb.size
  clear hb
  clear BW KaW ZaW
  by_cases hz : classI r = 0
  case neg =>
    have hne : (classI r != 0) = true := by simp [hz]
    have HE : Hid (lowGreat r us = 0) := by simp [Hid, lowGreat, hz]
    clear hz
    go_wp2
    go_ret
    exact ⟨ret_intF (unhide HE).symm, unhide Bv1⟩
  have HZ := hide hz
  have HFIN : Hid (((max (us.countP (wideB r)) (us.countP (heavyB r)) : Nat) : Int) = lowGreat r us) := by
    rw [Hid, lowGreat, if_pos hz, greatN, count_known (wide_known hz), count_known (heavy_known hz)]
  have HMB := hide (fun (u : Int) => volAt_bd (itemsR r) u)
  have HGB := hide (fun (u : Int) => gramAt_bd (itemsR r) (itemsR_good r).gram u)
  have HMV : Hid (0 ≤ (vol (masterV r).wd (masterV r).ht (masterV r).dp) ∧ (vol (masterV r).wd (masterV r).ht (masterV r).dp) ≤ 8000000000) := vol_bd _ _ _
  rw [hz]
  clear hz
  obtain ⟨ca0, ca1, ca2, ca3, ca4, ca5, ca6, ca7, ca8, ca9⟩ := Blk.cs10 (unhide Kav1)
  go_wp2_with fail
  clear ca0 ca1 ca2 ca3 ca4 ca5 ca6 ca7 ca8 ca9
  refine (specMasterOf_any r h _ ((unhide HR).mono (unhide Bv1)) htl).mono ?_
  rintro e v2 ⟨rfl, hb⟩
  have Bv2 := hide ((unhide Bv1).trans (hb.mono (unhide Bv1).size))
  have Kav2 := hide (Blk.below hb Zav1 (unhide Kav1))
  have Zav2 := Nat.lt_of_lt_of_le Zav1 hb.size
  clear hb
  clear Bv1 Kav1 Zav1
  obtain ⟨ca0, ca1, ca2, ca3, ca4, ca5, ca6, ca7, ca8, ca9⟩ := Blk.cs10 (unhide Kav2)
  go_wp2_with fail
  clear ca0 ca1 ca2 ca3 ca4 ca5 ca6 ca7 ca8 ca9
  have Bv3 : Hid (Below w.heap.size w (v2.alloc (.cells #[.int .i64 (masterV r).id, .int .i64 (masterV r).wd, .int .i64 (masterV r).ht, .int .i64 (masterV r).dp, .int .i64 (masterV r).tare, .int .i64 (masterV r).gram, .int .i64 (masterV r).cost] 68))) := (unhide Bv2).alloc (unhide Bv2).size _
  have Ktv3 : Hid (Blk (v2.alloc (.cells #[.int .i64 (masterV r).id, .int .i64 (masterV r).wd, .int .i64 (masterV r).ht, .int .i64 (masterV r).dp, .int .i64 (masterV r).tare, .int .i64 (masterV r).gram, .int .i64 (masterV r).cost] 68)) v2.heap.size [.int .i64 (masterV r).id, .int .i64 (masterV r).wd, .int .i64 (masterV r).ht, .int .i64 (masterV r).dp, .int .i64 (masterV r).tare, .int .i64 (masterV r).gram, .int .i64 (masterV r).cost]) := Blk.allocAt [.int .i64 (masterV r).id, .int .i64 (masterV r).wd, .int .i64 (masterV r).ht, .int .i64 (masterV r).dp, .int .i64 (masterV r).tare, .int .i64 (masterV r).gram, .int .i64 (masterV r).cost] rfl
  have Ztv3 : v2.heap.size < (v2.alloc (.cells #[.int .i64 (masterV r).id, .int .i64 (masterV r).wd, .int .i64 (masterV r).ht, .int .i64 (masterV r).dp, .int .i64 (masterV r).tare, .int .i64 (masterV r).gram, .int .i64 (masterV r).cost] 68)).heap.size := by simp
  have Gt : w.heap.size ≤ v2.heap.size := (unhide Bv2).size
  have Kav3 : Hid (Blk (v2.alloc (.cells #[.int .i64 (masterV r).id, .int .i64 (masterV r).wd, .int .i64 (masterV r).ht, .int .i64 (masterV r).dp, .int .i64 (masterV r).tare, .int .i64 (masterV r).gram, .int .i64 (masterV r).cost] 68)) w.heap.size [.int .i64 r.way, .int .i64 r.pal.wd, .int .i64 r.pal.dp, .int .i64 r.pal.ht, .int .i64 r.pal.gram, .int .i64 r.classes, .slice h.ap r.pairs.length h.cp, .slice h.at' r.types.length h.ct, .int .i64 r.master, .slice h.ai r.items.length h.ci]) := (unhide Kav2).allocOld Zav2 _
  have Zav3 : w.heap.size < (v2.alloc (.cells #[.int .i64 (masterV r).id, .int .i64 (masterV r).wd, .int .i64 (masterV r).ht, .int .i64 (masterV r).dp, .int .i64 (masterV r).tare, .int .i64 (masterV r).gram, .int .i64 (masterV r).cost] 68)).heap.size := by simp <;> omega
  have Nqat : w.heap.size ≠ v2.heap.size := Nat.ne_of_lt Zav2
  have Nqta : v2.heap.size ≠ w.heap.size := Ne.symm Nqat
  clear Bv2 Kav2 Zav2
  generalize (v2.alloc (.cells #[.int .i64 (masterV r).id, .int .i64 (masterV r).wd, .int .i64 (masterV r).ht, .int .i64 (masterV r).dp, .int .i64 (masterV r).tare, .int .i64 (masterV r).gram, .int .i64 (masterV r).cost] 68)) = v3 at *
  obtain ⟨ca0, ca1, ca2, ca3, ca4, ca5, ca6, ca7, ca8, ca9⟩ := Blk.cs10 (unhide Kav3)
  go_wp2_with fail
  clear ca0 ca1 ca2 ca3 ca4 ca5 ca6 ca7 ca8 ca9
  refine (l6Units_zero r h _ ((unhide HR).mono (unhide Bv3)) (unhide HZ)).mono ?_
  rintro e v4 ⟨gp, cp, rfl, hgo, hb⟩
  have Bv4 := hide ((unhide Bv3).trans (hb.mono (unhide Bv3).size))
  have Kav4 := hide (Blk.below hb Zav3 (unhide Kav3))
  have Zav4 := Nat.lt_of_lt_of_le Zav3 hb.size
  have Ktv4 := hide (Blk.below hb Ztv3 (unhide Ktv3))
  have Ztv4 := Nat.lt_of_lt_of_le Ztv3 hb.size
  clear hb
  clear Bv3 Kav3 Zav3 Ktv3 Ztv3
  have UN := hide (Rd.of_owns hgo)
  have hN12 := unitsR_len r
  clear hgo
  generalize hN : (unitsR r).length = N at *
  clear hN
  obtain ⟨wb, hwb⟩ : ∃ wb : World, wb = v4 := ⟨_, rfl⟩
  subst hwb
  have HWB := Bv4
  have Kawb := Kav4
  have Ktwb := Ktv4
  have Zawb := Zav4
  have Ztwb := Ztv4
  go_wp2
  go_loopw [8, 9, 10] (fun x y i wr => ∃ (k : Nat), k ≤ n ∧ i = .int .i64 k ∧ x = .int .i64 ((cntTo (wideB r) us k : Nat) : Int) ∧ y = .int .i64 ((cntTo (heavyB r) us k : Nat) : Int) ∧ Below wb.heap.size wb wr) (fun _ _ i _ => n - (intOf i).toNat)
  case atStart => exact ⟨0, Nat.zero_le _, rfl, rfl, rfl, Below.refl _ _⟩
  case round =>
    obtain ⟨k, hk, rfl, rfl, rfl, hb⟩ := hrel
    have Bwr := hide hb
    by_cases hlk : k < n
    case neg =>
      obtain rfl : k = n := by omega
      have hBW := hide ((unhide HWB).trans (hb.mono (unhide HWB).size))
      have hx : cntTo (wideB r) us k = us.countP (wideB r) := by rw [cntTo, List.take_of_length_le (by omega)]
      have hy : cntTo (heavyB r) us k = us.countP (heavyB r) := by rw [cntTo, List.take_of_length_le (by omega)]
      rw [← hx, ← hy] at HFIN
      clear hb hx hy
      generalize cntTo (wideB r) us k = X at *
      generalize cntTo (heavyB r) us k = Y at *
      have hf := unhide HFIN
      rw [Nat.max_def] at hf
      go_wp2
      all_goals
        go_ret
        exact ⟨ret_intF (by split at hf <;> omega), unhide hBW⟩
    have Kawr := hide (Blk.below hb Zawb (unhide Kawb))
    have Ktwr := hide (Blk.below hb Ztwb (unhide Ktwb))
    have Zawr := Nat.lt_of_lt_of_le Zawb hb.size
    have Ztwr := Nat.lt_of_lt_of_le Ztwb hb.size
    obtain ⟨b, off, hua, hcw⟩ := ((unhide HU).mono (unhide HWB)).2 k hlk
    have hku : k < us.length := by omega
    have hkc1 : k + 1 ≤ c := by omega
    have hkc2 : ¬ c = k := by omega
    have hkc3 : k < c := by omega
    have HSX := hide (cntTo_step (p := wideB r) hku)
    have HSY := hide (cntTo_step (p := heavyB r) hku)
    have hX := cntTo_le (wideB r) us k
    have hY := cntTo_le (heavyB r) us k
    generalize us.getD k 0 = x at *
    subst hua
    have hcu : ∀ u, Below wb.heap.size wb u → u.cell? ⟨b, off + k, none⟩ = some (.int .i64 x) := fun u hb => (hb.cell (World.block_lt_of_cell? wb _ hcw)).trans hcw
    clear hcw hb
    generalize cntTo (wideB r) us k = X at *
    generalize cntTo (heavyB r) us k = Y at *
    go_upto_region 10 with fail
    go_cut [11] (fun v wc => ∃ gl, v = .pointer (some ⟨gl, 0, none⟩) ∧ Blk wc gl [.int .i64 (volOf (itemsR r) [x]), .int .i64 (gramOf (itemsR r) [x])] ∧ Blk wc v2.heap.size [.int .i64 (masterV r).id, .int .i64 (masterV r).wd, .int .i64 (masterV r).ht, .int .i64 (masterV r).dp, .int .i64 (masterV r).tare, .int .i64 (masterV r).gram, .int .i64 (masterV r).cost] ∧ Below wb.heap.size wb wc)
    case first =>
      refine wp_region_noPanic ?_
      have Bu0 : Hid (Below wb.heap.size wb wr.drew) := (unhide Bwr).drew
      have Kau0 : Hid (Blk wr.drew w.heap.size [.int .i64 r.way, .int .i64 r.pal.wd, .int .i64 r.pal.dp, .int .i64 r.pal.ht, .int .i64 r.pal.gram, .int .i64 r.classes, .slice h.ap r.pairs.length h.cp, .slice h.at' r.types.length h.ct, .int .i64 r.master, .slice h.ai r.items.length h.ci]) := unhide Kawr
      have Zau0 : w.heap.size < wr.drew.heap.size := Zawr
      have Ktu0 : Hid (Blk wr.drew v2.heap.size [.int .i64 (masterV r).id, .int .i64 (masterV r).wd, .int .i64 (masterV r).ht, .int .i64 (masterV r).dp, .int .i64 (masterV r).tare, .int .i64 (masterV r).gram, .int .i64 (masterV r).cost]) := unhide Ktwr
      have Ztu0 : v2.heap.size < wr.drew.heap.size := Ztwr
      obtain ⟨S, hSdef⟩ : ∃ S : World → Prop, S = (fun w' => w'.cell? ⟨w.heap.size, 0, none⟩ = some (.int .i64 r.way) ∧ w'.cell? ⟨w.heap.size, 1, none⟩ = some (.int .i64 r.pal.wd) ∧ w'.cell? ⟨w.heap.size, 2, none⟩ = some (.int .i64 r.pal.dp) ∧ w'.cell? ⟨w.heap.size, 3, none⟩ = some (.int .i64 r.pal.ht) ∧ w'.cell? ⟨w.heap.size, 4, none⟩ = some (.int .i64 r.pal.gram) ∧ w'.cell? ⟨w.heap.size, 5, none⟩ = some (.int .i64 r.classes) ∧ w'.cell? ⟨w.heap.size, 6, none⟩ = some (.slice h.ap r.pairs.length h.cp) ∧ w'.cell? ⟨w.heap.size, 7, none⟩ = some (.slice h.at' r.types.length h.ct) ∧ w'.cell? ⟨w.heap.size, 8, none⟩ = some (.int .i64 r.master) ∧ w'.cell? ⟨w.heap.size, 9, none⟩ = some (.slice h.ai r.items.length h.ci)) := ⟨_, rfl⟩
      have hSmk : ∀ wq, Blk wq w.heap.size [.int .i64 r.way, .int .i64 r.pal.wd, .int .i64 r.pal.dp, .int .i64 r.pal.ht, .int .i64 r.pal.gram, .int .i64 r.classes, .slice h.ap r.pairs.length h.cp, .slice h.at' r.types.length h.ct, .int .i64 r.master, .slice h.ai r.items.length h.ci] → S wq := fun wq ka => by rw [hSdef]; exact ⟨(ka 0 (by simp)).1, (ka 1 (by simp)).1, (ka 2 (by simp)).1, (ka 3 (by simp)).1, (ka 4 (by simp)).1, (ka 5 (by simp)).1, (ka 6 (by simp)).1, (ka 7 (by simp)).1, (ka 8 (by simp)).1, (ka 9 (by simp)).1⟩
      have hSd : ∀ wq, S wq → (fun w' => w'.cell? ⟨w.heap.size, 0, none⟩ = some (.int .i64 r.way) ∧ w'.cell? ⟨w.heap.size, 1, none⟩ = some (.int .i64 r.pal.wd) ∧ w'.cell? ⟨w.heap.size, 2, none⟩ = some (.int .i64 r.pal.dp) ∧ w'.cell? ⟨w.heap.size, 3, none⟩ = some (.int .i64 r.pal.ht) ∧ w'.cell? ⟨w.heap.size, 4, none⟩ = some (.int .i64 r.pal.gram) ∧ w'.cell? ⟨w.heap.size, 5, none⟩ = some (.int .i64 r.classes) ∧ w'.cell? ⟨w.heap.size, 6, none⟩ = some (.slice h.ap r.pairs.length h.cp) ∧ w'.cell? ⟨w.heap.size, 7, none⟩ = some (.slice h.at' r.types.length h.ct) ∧ w'.cell? ⟨w.heap.size, 8, none⟩ = some (.int .i64 r.master) ∧ w'.cell? ⟨w.heap.size, 9, none⟩ = some (.slice h.ai r.items.length h.ci)) wq := fun wq h => by rw [hSdef] at h; exact h
      clear hSdef
      have hHeld : S wr.drew := hSmk wr.drew (unhide Kau0)
      refine wp_region_to (S := S) (T := []) (by kernel_rfl) hHeld (fun _ => ?_)
      generalize wr.drew = u0 at *
      refine wpTo_tk (i := 0) (v := ?_) rfl (by kernel_rfl) (Or.inl ⟨by rfl, ?_⟩) (by assumption) ?_
      rotate_left
      · intro w hSw
        have hSw := hSd _ hSw
        (try dsimp only at hSw)
        go_simp <;> with_reducible rfl
      refine wpTo_tk (i := 1) (v := ?_) rfl (by kernel_rfl) (Or.inl ⟨by rfl, ?_⟩) (by assumption) ?_
      rotate_left
      · intro w hSw
        have hSw := hSd _ hSw
        (try dsimp only at hSw)
        go_simp <;> with_reducible rfl
      refine wpTo_tk (i := 2) (v := ?_) rfl (by kernel_rfl) (Or.inl ⟨by rfl, ?_⟩) (by assumption) ?_
      rotate_left
      · intro w hSw
        have hSw := hSd _ hSw
        (try dsimp only at hSw)
        go_simp <;> with_reducible rfl
      refine wpTo_tk (i := 3) (v := ?_) rfl (by kernel_rfl) (Or.inl ⟨by rfl, ?_⟩) (by assumption) ?_
      rotate_left
      · intro w hSw
        have hSw := hSd _ hSw
        (try dsimp only at hSw)
        go_simp <;> with_reducible rfl
      refine wpTo_tk (i := 4) (v := ?_) rfl (by kernel_rfl) (Or.inl ⟨by rfl, ?_⟩) (by assumption) ?_
      rotate_left
      · intro w hSw
        have hSw := hSd _ hSw
        (try dsimp only at hSw)
        go_simp <;> with_reducible rfl
      refine wpTo_tk (i := 5) (v := ?_) rfl (by kernel_rfl) (Or.inl ⟨by rfl, ?_⟩) (by assumption) ?_
      rotate_left
      · intro w hSw
        have hSw := hSd _ hSw
        (try dsimp only at hSw)
        go_simp <;> with_reducible rfl
      try simp only [Act.put, List.getElem_toArray, List.getElem_cons_zero, List.getElem_cons_succ, List.setIfInBounds_toArray, List.set_cons_zero, List.set_cons_succ]
      rw [wrap_fits (x := (k : Int) + 1) (by omega) (by omega)]
      try simp only [Act.put, List.getElem_toArray, List.getElem_cons_zero, List.getElem_cons_succ, List.setIfInBounds_toArray, List.set_cons_zero, List.set_cons_succ]
      refine wpTo_inv (fun a0 listed ai wi => ∃ (b6 b7 b8 b9 : Bool) (gl : Nat), listed = #[true, true, true, true, true, true, b6, b7, b8, b9] ∧ ai = fillS b8 11 (.pointer (some ⟨gl, 0, none⟩)) (fillS b7 35 (.agg #[.int .i64 (volOf (itemsR r) [x]), .int .i64 (gramOf (itemsR r) [x])]) (fillS b6 34 (.slice (some ⟨b, off + k, none⟩) 1 (c - k)) (a0))) ∧ Hid (Below u0.heap.size u0 wi) ∧ Hid (Tk b8 → Fk b9 → Blk wi gl [.int .i64 0, .int .i64 0] ∧ gl < wi.heap.size ∧ u0.heap.size ≤ gl) ∧ Hid (Tk b9 → Blk wi gl [.int .i64 (volOf (itemsR r) [x]), .int .i64 (gramOf (itemsR r) [x])]) ∧ Hid (Tk b7 → Tk b6) ∧ Hid (Tk b9 → Tk b6 ∧ Tk b7 ∧ Tk b8)) ⟨false, false, false, false, 0, rfl, by simp only [fillS_false], (Below.refl _ _), (fun h _ => by cases h), (fun h => by cases h), (fun h => by cases h), (fun h => by cases h)⟩ ?hS ?hT ?step ?fin _ (by decide)
      case hS =>
        rintro listed ai wi ⟨b6, b7, b8, b9, gl, rfl, ha, FB, FKl, FP0, FC7, FC9⟩ hTf
        exact hSmk wi (Blk.below ((unhide FB)) Zau0 (unhide Kau0))
      case hT =>
        exact fun _ _ _ _ f hf => by cases hf
      case step =>
        rintro listed ai wi i o ⟨b6, b7, b8, b9, gl, rfl, ha, FB, FKl, FP0, FC7, FC9⟩ ho hl hall
        have hi : i < 10 := (Array.getElem?_eq_some_iff.1 ho).1
        obtain rfl | rfl | rfl | rfl | rfl | rfl | rfl | rfl | rfl | rfl : i = 0 ∨ i = 1 ∨ i = 2 ∨ i = 3 ∨ i = 4 ∨ i = 5 ∨ i = 6 ∨ i = 7 ∨ i = 8 ∨ i = 9 := by omega
        · exact absurd hl (by simp)
        · exact absurd hl (by simp)
        · exact absurd hl (by simp)
        · exact absurd hl (by simp)
        · exact absurd hl (by simp)
        · exact absurd hl (by simp)
        · obtain rfl := Option.some.inj ho
          obtain rfl : b6 = false := by simpa using hl
          obtain rfl : b7 = false := Tk_no (fun p => by have h8 := (unhide FC7) p; simp [Tk] at h8)
          obtain rfl : b9 = false := Tk_no (fun p => by have h8 := (unhide FC9) p; simp [Tk] at h8)
          clear ho hl hall hi
          simp only [fillS, pickS_true, pickS_false, Act.put, Array.getD_eq_getD_getElem?, List.getElem?_toArray, List.getElem?_cons_zero, List.getElem?_cons_succ, Option.getD_some, List.getElem_toArray, List.getElem_cons_zero, List.getElem_cons_succ, List.setIfInBounds_toArray, List.set_cons_zero, List.set_cons_succ] at ha
          subst ha
          refine wpOp_stepS (o := _) rfl (fun K hK => ?_)
          go_simp
          rw [if_pos (show (0 : Int) ≤ (k : Int) + 1 ∧ (k : Int) + 1 ≤ (c : Int) from ⟨by omega, by omega⟩)]
          go_simp
          refine hK.out _ _ ?_
          exact ⟨true, false, b8, false, gl, rfl, by simp only [fillS, pickS_true, pickS_false, Act.put, Array.getD_eq_getD_getElem?, List.getElem?_toArray, List.getElem?_cons_zero, List.getElem?_cons_succ, Option.getD_some, List.getElem_toArray, List.getElem_cons_zero, List.getElem_cons_succ, List.setIfInBounds_toArray, List.set_cons_zero, List.set_cons_succ], ((unhide FB)), (fun p8 q9 => (unhide FKl p8 q9)), (fun p9 => (by cases p9)), (fun p7 => (by cases p7)), (fun p9 => (by cases p9))⟩
        · obtain rfl := Option.some.inj ho
          obtain rfl : b7 = false := by simpa using hl
          obtain rfl : b6 = true := by simpa using hall ⟨6, .data⟩ (by simp) rfl
          obtain rfl : b9 = false := Tk_no (fun p => by have h8 := (unhide FC9) p; simp [Tk] at h8)
          clear ho hl hall hi
          simp only [fillS, pickS_true, pickS_false, Act.put, Array.getD_eq_getD_getElem?, List.getElem?_toArray, List.getElem?_cons_zero, List.getElem?_cons_succ, Option.getD_some, List.getElem_toArray, List.getElem_cons_zero, List.getElem_cons_succ, List.setIfInBounds_toArray, List.set_cons_zero, List.set_cons_succ] at ha
          subst ha
          refine wpOp_stepS (o := _) rfl (fun K hK => ?_)
          go_simp
          refine (l7Of_any r h (some ⟨gp, 0, none⟩) N cp (some ⟨b, off + k, none⟩) 1 (c - k) [x] wi ((unhide HR).mono ((unhide HWB).trans (((unhide Bu0).trans ((unhide FB).mono (unhide Bu0).size)).mono (unhide HWB).size))) ((unhide UN).mono ((unhide Bu0).trans ((unhide FB).mono (unhide Bu0).size))) (Rd.oneP (hcu _ ((unhide Bu0).trans ((unhide FB).mono (unhide Bu0).size)))) (by omega)).mono ?_
          rintro e wz ⟨rfl, hb⟩
          go_wp2_with fail
          refine hK.out _ _ ?_
          exact ⟨true, true, b8, false, gl, rfl, by simp only [fillS, pickS_true, pickS_false, Act.put, Array.getD_eq_getD_getElem?, List.getElem?_toArray, List.getElem?_cons_zero, List.getElem?_cons_succ, Option.getD_some, List.getElem_toArray, List.getElem_cons_zero, List.getElem_cons_succ, List.setIfInBounds_toArray, List.set_cons_zero, List.set_cons_succ], (((unhide FB).trans (hb.mono (unhide FB).size))), (fun p8 q9 => ⟨Blk.below hb (unhide FKl p8 q9).2.1 (unhide FKl p8 q9).1, Nat.lt_of_lt_of_le (unhide FKl p8 q9).2.1 hb.size, (unhide FKl p8 q9).2.2⟩), (fun p9 => (by cases p9)), (fun p7 => rfl), (fun p9 => (by cases p9))⟩
        · obtain rfl := Option.some.inj ho
          obtain rfl : b8 = false := by simpa using hl
          obtain rfl : b9 = false := Tk_no (fun p => by have h8 := (unhide FC9) p; simp [Tk] at h8)
          clear ho hl hall hi
          simp only [fillS, pickS_true, pickS_false, Act.put, Array.getD_eq_getD_getElem?, List.getElem?_toArray, List.getElem?_cons_zero, List.getElem?_cons_succ, Option.getD_some, List.getElem_toArray, List.getElem_cons_zero, List.getElem_cons_succ, List.setIfInBounds_toArray, List.set_cons_zero, List.set_cons_succ] at ha
          subst ha
          refine wpOp_stepS (o := _) rfl (fun K hK => ?_)
          go_simp
          refine hK.out _ _ ?_
          exact ⟨b6, b7, true, false, wi.heap.size, rfl, by simp only [fillS, pickS_true, pickS_false, Act.put, Array.getD_eq_getD_getElem?, List.getElem?_toArray, List.getElem?_cons_zero, List.getElem?_cons_succ, Option.getD_some, List.getElem_toArray, List.getElem_cons_zero, List.getElem_cons_succ, List.setIfInBounds_toArray, List.set_cons_zero, List.set_cons_succ], (((unhide FB).alloc (unhide FB).size _)), (fun p8 q9 => ⟨Blk.allocAt [.int .i64 0, .int .i64 0] (by rfl), lt_alloc_new wi _, ((unhide FB)).size⟩), (fun p9 => (by cases p9)), (fun p7 => (unhide FC7 p7)), (fun p9 => (by cases p9))⟩
        · obtain rfl := Option.some.inj ho
          obtain rfl : b9 = false := by simpa using hl
          obtain rfl : b8 = true := by simpa using hall ⟨8, .data⟩ (by simp) rfl
          obtain rfl : b7 = true := by simpa using hall ⟨7, .data⟩ (by simp) rfl
          obtain rfl := (unhide FC7) rfl
          clear ho hl hall hi
          simp only [fillS, pickS_true, pickS_false, Act.put, Array.getD_eq_getD_getElem?, List.getElem?_toArray, List.getElem?_cons_zero, List.getElem?_cons_succ, Option.getD_some, List.getElem_toArray, List.getElem_cons_zero, List.getElem_cons_succ, List.setIfInBounds_toArray, List.set_cons_zero, List.set_cons_succ] at ha
          subst ha
          refine wpOp_stepS (o := _) rfl (fun K hK => ?_)
          go_simp
          have kl := ((unhide FKl) rfl rfl).1
          have p0 := (kl 0 (by simp)).1
          have q0 := (kl 0 (by simp)).2
          have p1 := (kl 1 (by simp)).1
          have q1 := (kl 1 (by simp)).2
          go_simp
          refine hK.out _ _ ?_
          exact ⟨true, true, true, true, gl, rfl, by simp only [fillS, pickS_true, pickS_false, Act.put, Array.getD_eq_getD_getElem?, List.getElem?_toArray, List.getElem?_cons_zero, List.getElem?_cons_succ, Option.getD_some, List.getElem_toArray, List.getElem_cons_zero, List.getElem_cons_succ, List.setIfInBounds_toArray, List.set_cons_zero, List.set_cons_succ], ((((unhide FB).setCell ((unhide FKl) rfl rfl).2.2 _).setCell ((unhide FKl) rfl rfl).2.2 _)), (fun p8 q9 => (by cases q9)), (fun p9 => Blk.fill2 ((unhide FKl) rfl rfl).1), (fun p7 => (unhide FC7 p7)), (fun p9 => ⟨rfl, rfl, rfl⟩)⟩
      case fin =>
        rintro listed ai wi ⟨b6, b7, b8, b9, gl, rfl, ha, FB, FKl, FP0, FC7, FC9⟩ hall
        obtain rfl : b6 = true := by
          have h9 := hall 6 _ rfl (by
            intro e he hbd
            simp at he
            rcases he with rfl | rfl | rfl <;> simp
            )
          simpa using h9
        obtain rfl : b7 = true := by
          have h9 := hall 7 _ rfl (by
            intro e he hbd
            simp at he
            rcases he with rfl | rfl | rfl <;> simp
            )
          simpa using h9
        obtain rfl : b8 = true := by
          have h9 := hall 8 _ rfl (by
            intro e he hbd
            simp at he
            )
          simpa using h9
        obtain rfl : b9 = true := by
          have h9 := hall 9 _ rfl (by
            intro e he hbd
            simp at he
            rcases he with rfl | rfl | rfl | rfl | rfl | rfl | rfl | rfl | rfl | rfl | rfl | rfl <;> simp
            )
          simpa using h9
        clear hall
        simp only [fillS, pickS_true, pickS_false, Act.put, Array.getD_eq_getD_getElem?, List.getElem?_toArray, List.getElem?_cons_zero, List.getElem?_cons_succ, Option.getD_some, List.getElem_toArray, List.getElem_cons_zero, List.getElem_cons_succ, List.setIfInBounds_toArray, List.set_cons_zero, List.set_cons_succ] at ha
        subst ha
        refine NoPanic.normal ?_
        have Bwi := hide ((unhide Bu0).trans ((unhide FB).mono (unhide Bu0).size))
        have Kawi := hide (Blk.below (unhide FB) Zau0 (unhide Kau0))
        have Zawi := Nat.lt_of_lt_of_le Zau0 (unhide FB).size
        have Ktwi := hide (Blk.below (unhide FB) Ztu0 (unhide Ktu0))
        have Ztwi := Nat.lt_of_lt_of_le Ztu0 (unhide FB).size
        have HP0 := hide ((unhide FP0) rfl)
        clear FB FKl FP0 FC7 FC9
        go_wp2_with fail
        go_meet
        case rel => exact ⟨_, rfl, unhide HP0, unhide Ktwi, unhide Bwi⟩
    case rest =>
      clear Bwr Kawr Ktwr Zawr Ztwr
      obtain ⟨gl, rfl, kl, kt, hb⟩ := hcut
      have HB := hide hb
      have l0 := (kl 0 (by simp)).1
      have l1 := (kl 1 (by simp)).1
      have t1 := (kt 1 (by simp)).1
      have t2 := (kt 2 (by simp)).1
      have t3 := (kt 3 (by simp)).1
      have t5 := (kt 5 (by simp)).1
      clear kl kt hb hcu
      simp only [List.getElem?_cons_zero, List.getElem?_cons_succ] at l0 l1 t1 t2 t3 t5
      have e1 : volOf (itemsR r) [x] = volAt (itemsR r) x := by simp [volOf]
      have e2 : gramOf (itemsR r) [x] = gramAt (itemsR r) x := by simp [gramOf]
      rw [e1] at l0
      rw [e2] at l1
      have hmb := (unhide HMB) x
      have hgb := (unhide HGB) x
      have hmv := unhide HMV
      have HWQ : Hid (wideB r x = decide ((vol (masterV r).wd (masterV r).ht (masterV r).dp) < 2 * volAt (itemsR r) x)) := rfl
      have HHQ : Hid (heavyB r x = decide ((masterV r).gram < 2 * gramAt (itemsR r) x)) := rfl
      clear e1 e2
      generalize volAt (itemsR r) x = xv at *
      generalize gramAt (itemsR r) x = yv at *
      rcases Bool.eq_false_or_eq_true (decide ((vol (masterV r).wd (masterV r).ht (masterV r).dp) < 2 * xv)) with h1 | h1 <;> rcases Bool.eq_false_or_eq_true (decide ((masterV r).gram < 2 * yv)) with h2 | h2
      all_goals
        have HX2 := hide (unhide HSX)
        rw [unhide HWQ, h1] at HX2
        have HY2 := hide (unhide HSY)
        rw [unhide HHQ, h2] at HY2
        go_upto_region 11 with fail
        go_quiet (first | (go_at_call 55; exact Calls.quiet_of_same (specVolume_any _ _ _ _)) | (go_at_call 61; first | exact Calls.quiet_of_same (l1Bit_true _) | exact Calls.quiet_of_same (l1Bit_false _)))
        go_wp2
        go_roundw
        case rel => exact ⟨k + 1, by omega, by go_num, by rw [unhide HX2]; simp, by rw [unhide HY2]; simp, (unhide HB).drewsN _⟩
        case measure => simp [intOf]; omega
end Go.Proofs.YtdmaldjnjffnlaaGreatDoor
