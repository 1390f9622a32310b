/- First fit of the model: l7First. -/
import Derived.Test.YtphdeojiehigpaaGreatDoorSpecNext
namespace Go.Proofs.YtphdeojiehigpaaGreatDoor
open Go Go.RowKit
set_option linter.unusedVariables false
set_option linter.unusedSimpArgs false

theorem Rd.one {w : World} {b off : Nat} {x : Int} (h : w.cell? ⟨b, off, none⟩ = some (.int .i64 x)) : Rd w (some ⟨b, off, none⟩) 1 [x] := ⟨rfl, fun i hi => by
  obtain rfl : i = 0 := by omega
  exact ⟨b, off, rfl, h⟩⟩
theorem ciSnoc (l : List Int) (x : Int) : ci (l ++ [x]) = ci l ++ [.int .i64 x] := by simp [ci]
theorem takeMapStep {α : Type} (f : Int → α) (us : List Int) (k : Nat) (h : k < us.length) : (us.take (k + 1)).map f = (us.take k).map f ++ [f (us.getD k 0)] := by
  rw [List.take_succ_eq_append_getElem h, List.map_append]
  simp [List.getD_eq_getElem?_getD, h]
theorem cellsNgetD (l : List Nat) (i : Nat) (h : i < l.length) : (cellsN l)[i]? = some (.int .i64 ((l.getD i 0 : Nat) : Int)) := by
  rw [cellsN_at l i h]
  simp [List.getD_eq_getElem?_getD, h]
theorem Rd.at {w : World} {b n : Nat} {us : List Int} (h : Rd w (some ⟨b, 0, none⟩) n us) (i : Nat) (hi : i < n) : w.cell? ⟨b, i, none⟩ = some (.int .i64 (us.getD i 0)) := by
  obtain ⟨b', off, e, hc⟩ := h.2 i hi
  injection e with e
  injection e with e1 e2
  subst e1 e2
  rwa [Nat.zero_add] at hc
theorem getD_map_cast {l : List Nat} {j : Nat} (h : j < l.length) : (l.map (fun p : Nat => (p : Int))).getD j 0 = ((l.getD j 0 : Nat) : Int) := by simp [List.getD_eq_getElem?_getD, h]
/-- What a search from behind has found so far, from place j on. -/
def ScanOk (f : List Int → Int → Bool) (gs : List (List Int)) (x : Int) (j : Nat) (v : Int) : Prop :=
  (v = -1 ∧ ∀ p, j ≤ p → p < gs.length → f (gs.getD p []) x = false) ∨ ∃ q : Nat, v = q ∧ j ≤ q ∧ q < gs.length ∧ f (gs.getD q []) x = true ∧ ∀ p, j ≤ p → p < q → f (gs.getD p []) x = false
theorem ScanOk.hit {f : List Int → Int → Bool} {gs : List (List Int)} {x : Int} {j : Nat} (hj : j < gs.length) (h : f (gs.getD j []) x = true) : ScanOk f gs x j (j : Int) := .inr ⟨j, rfl, Nat.le_refl _, hj, h, fun p h1 h2 => by omega⟩
theorem ScanOk.miss {f : List Int → Int → Bool} {gs : List (List Int)} {x v : Int} {j : Nat} (h : f (gs.getD j []) x = false) (hs : ScanOk f gs x (j + 1) v) : ScanOk f gs x j v := by
  have key : ∀ p, j ≤ p → (j + 1 ≤ p → f (gs.getD p []) x = false) → f (gs.getD p []) x = false := fun p h1 h2 => by
    by_cases e : p = j
    · subst e; exact h
    · exact h2 (by omega)
  rcases hs with ⟨h1, h2⟩ | ⟨q, h1, h2, h3, h4, h5⟩
  · exact .inl ⟨h1, fun p hp hl => key p hp (fun e => h2 p e hl)⟩
  · exact .inr ⟨q, h1, by omega, h3, h4, fun p hp hl => key p hp (fun e => h5 p e hl)⟩
theorem ScanOk.none {f : List Int → Int → Bool} {gs : List (List Int)} {x : Int} (h : ScanOk f gs x 0 (-1)) : firstStep f gs x = gs ++ [[x]] := by
  rcases h with ⟨_, h2⟩ | ⟨q, h1, _⟩
  · have : firstPl f gs x = gs.length := firstPl_eq (Nat.le_refl _) (fun j hj => h2 j (Nat.zero_le _) hj) (fun h => by omega)
    rw [firstStep, this, putP_new]
  · omega
theorem ScanOk.some {f : List Int → Int → Bool} {gs : List (List Int)} {x : Int} {q : Nat} (h : ScanOk f gs x 0 (q : Int)) : q < gs.length ∧ firstStep f gs x = gs.set q (gs.getD q [] ++ [x]) := by
  rcases h with ⟨h1, _⟩ | ⟨p, h1, h2, h3, h4, h5⟩
  · omega
  · obtain rfl : q = p := by omega
    have : firstPl f gs x = q := firstPl_eq (by omega) (fun j hj => h5 j (Nat.zero_le _) hj) (fun _ => h4)
    exact ⟨h3, by rw [firstStep, this, putP_old h3]⟩
set_option maxRecDepth 100000 in
set_option maxHeartbeats 4000000 in
theorem l7First_any (r : ReqV) (h : ReqH) (a : Option Addr) (n c : Nat) (us : List Int) (w : World) (hr : RdReq w r h) (hs : r.small) (hz : classI r = 0) (hu : Rd w a n us) (hnc : n ≤ c) (hn : n ≤ 1048576) :
    Calls Tryz.prog 136 #[reqVal r h, .slice a n c] w fun e w' => ∃ g cap rows, e = .returned (.slice (some ⟨g, 0, none⟩) rows.length cap) ∧ Own2 w' w.heap.size g cap rows ∧ rows.map RowV.l = firstTo (roomB (itemsR r) (masterV r)) (sortedU (itemsR r) us) n ∧ Below w.heap.size w w' := by
  obtain ⟨i0, hi0, hz0, hz1, hz2⟩ := info_parts Tryz.infoIntSs
  obtain ⟨j0, hj0, hy0, hy1, hy2⟩ := info_parts Tryz.infoInts
  have htl : r.types.length ≤ 1048600 := by unfold ReqV.small at hs; omega
  have HR := hide hr
  have HU := hide hu
  have hul := hu.1
  clear hr hu
  unfold reqVal
  go_enter Tryz.func136, Tryz.ntmps136
  go_wp2_with fail
  have BW : Hid (Below w.heap.size w (w.alloc (.cells #[.int .i64 r.way, .int .i64 r.pal.wd, .int .i64 r.pal.dp, .int .i64 r.pal.ht, .int .i64 r.pal.gram, .int .i64 r.classes, .slice h.ap r.pairs.length h.cp, .slice h.at' r.types.length h.ct, .int .i64 r.master, .slice h.ai r.items.length h.ci] 40))) := ((Below.refl _ _).alloc (by simp) _)
  have KaW : Hid (Blk (w.alloc (.cells #[.int .i64 r.way, .int .i64 r.pal.wd, .int .i64 r.pal.dp, .int .i64 r.pal.ht, .int .i64 r.pal.gram, .int .i64 r.classes, .slice h.ap r.pairs.length h.cp, .slice h.at' r.types.length h.ct, .int .i64 r.master, .slice h.ai r.items.length h.ci] 40)) w.heap.size [.int .i64 r.way, .int .i64 r.pal.wd, .int .i64 r.pal.dp, .int .i64 r.pal.ht, .int .i64 r.pal.gram, .int .i64 r.classes, .slice h.ap r.pairs.length h.cp, .slice h.at' r.types.length h.ct, .int .i64 r.master, .slice h.ai r.items.length h.ci]) := (Blk.allocAt (w := w) [.int .i64 r.way, .int .i64 r.pal.wd, .int .i64 r.pal.dp, .int .i64 r.pal.ht, .int .i64 r.pal.gram, .int .i64 r.classes, .slice h.ap r.pairs.length h.cp, .slice h.at' r.types.length h.ct, .int .i64 r.master, .slice h.ai r.items.length h.ci] (by simp))
  have ZaW : w.heap.size < (w.alloc (.cells #[.int .i64 r.way, .int .i64 r.pal.wd, .int .i64 r.pal.dp, .int .i64 r.pal.ht, .int .i64 r.pal.gram, .int .i64 r.classes, .slice h.ap r.pairs.length h.cp, .slice h.at' r.types.length h.ct, .int .i64 r.master, .slice h.ai r.items.length h.ci] 40)).heap.size := by simp
  have Ga : w.heap.size ≤ w.heap.size := by omega
  generalize (w.alloc (.cells #[.int .i64 r.way, .int .i64 r.pal.wd, .int .i64 r.pal.dp, .int .i64 r.pal.ht, .int .i64 r.pal.gram, .int .i64 r.classes, .slice h.ap r.pairs.length h.cp, .slice h.at' r.types.length h.ct, .int .i64 r.master, .slice h.ai r.items.length h.ci] 40)) = W at *
  refine (specMasterOf_any r h _ ((unhide HR).mono (unhide BW)) htl).mono ?_
  rintro e v1 ⟨rfl, hb⟩
  have Bv1 := hide ((unhide BW).trans (hb.mono (unhide BW).size))
  have Kav1 := hide (Blk.below hb ZaW (unhide KaW))
  have Zav1 := Nat.lt_of_lt_of_le ZaW hb.size
  clear hb
  clear BW KaW ZaW
  obtain ⟨ca0, ca1, ca2, ca3, ca4, ca5, ca6, ca7, ca8, ca9⟩ := Blk.cs10 (unhide Kav1)
  go_wp2_with fail
  clear ca0 ca1 ca2 ca3 ca4 ca5 ca6 ca7 ca8 ca9
  have Bv2 : Hid (Below w.heap.size w (v1.alloc (.cells #[.int .i64 (masterV r).id, .int .i64 (masterV r).wd, .int .i64 (masterV r).ht, .int .i64 (masterV r).dp, .int .i64 (masterV r).tare, .int .i64 (masterV r).gram, .int .i64 (masterV r).cost] 55))) := (unhide Bv1).alloc (unhide Bv1).size _
  have Ktv2 : Hid (Blk (v1.alloc (.cells #[.int .i64 (masterV r).id, .int .i64 (masterV r).wd, .int .i64 (masterV r).ht, .int .i64 (masterV r).dp, .int .i64 (masterV r).tare, .int .i64 (masterV r).gram, .int .i64 (masterV r).cost] 55)) v1.heap.size [.int .i64 (masterV r).id, .int .i64 (masterV r).wd, .int .i64 (masterV r).ht, .int .i64 (masterV r).dp, .int .i64 (masterV r).tare, .int .i64 (masterV r).gram, .int .i64 (masterV r).cost]) := Blk.allocAt [.int .i64 (masterV r).id, .int .i64 (masterV r).wd, .int .i64 (masterV r).ht, .int .i64 (masterV r).dp, .int .i64 (masterV r).tare, .int .i64 (masterV r).gram, .int .i64 (masterV r).cost] rfl
  have Ztv2 : v1.heap.size < (v1.alloc (.cells #[.int .i64 (masterV r).id, .int .i64 (masterV r).wd, .int .i64 (masterV r).ht, .int .i64 (masterV r).dp, .int .i64 (masterV r).tare, .int .i64 (masterV r).gram, .int .i64 (masterV r).cost] 55)).heap.size := by simp
  have Gt : w.heap.size ≤ v1.heap.size := (unhide Bv1).size
  have Kav2 : Hid (Blk (v1.alloc (.cells #[.int .i64 (masterV r).id, .int .i64 (masterV r).wd, .int .i64 (masterV r).ht, .int .i64 (masterV r).dp, .int .i64 (masterV r).tare, .int .i64 (masterV r).gram, .int .i64 (masterV r).cost] 55)) w.heap.size [.int .i64 r.way, .int .i64 r.pal.wd, .int .i64 r.pal.dp, .int .i64 r.pal.ht, .int .i64 r.pal.gram, .int .i64 r.classes, .slice h.ap r.pairs.length h.cp, .slice h.at' r.types.length h.ct, .int .i64 r.master, .slice h.ai r.items.length h.ci]) := (unhide Kav1).allocOld Zav1 _
  have Zav2 : w.heap.size < (v1.alloc (.cells #[.int .i64 (masterV r).id, .int .i64 (masterV r).wd, .int .i64 (masterV r).ht, .int .i64 (masterV r).dp, .int .i64 (masterV r).tare, .int .i64 (masterV r).gram, .int .i64 (masterV r).cost] 55)).heap.size := by simp <;> omega
  have Nqat : w.heap.size ≠ v1.heap.size := Nat.ne_of_lt Zav1
  have Nqta : v1.heap.size ≠ w.heap.size := Ne.symm Nqat
  clear Bv1 Kav1 Zav1
  generalize (v1.alloc (.cells #[.int .i64 (masterV r).id, .int .i64 (masterV r).wd, .int .i64 (masterV r).ht, .int .i64 (masterV r).dp, .int .i64 (masterV r).tare, .int .i64 (masterV r).gram, .int .i64 (masterV r).cost] 55)) = v2 at *
  obtain ⟨ca0, ca1, ca2, ca3, ca4, ca5, ca6, ca7, ca8, ca9⟩ := Blk.cs10 (unhide Kav2)
  go_wp2_with fail
  refine (l6Units_zero r h _ ((unhide HR).mono (unhide Bv2)) hz).mono ?_
  rintro e v3 ⟨gp, cp, rfl, hgo, hb⟩
  have Bv3 := hide ((unhide Bv2).trans (hb.mono (unhide Bv2).size))
  have Kav3 := hide (Blk.below hb Zav2 (unhide Kav2))
  have Zav3 := Nat.lt_of_lt_of_le Zav2 hb.size
  have Ktv3 := hide (Blk.below hb Ztv2 (unhide Ktv2))
  have Ztv3 := Nat.lt_of_lt_of_le Ztv2 hb.size
  clear hb
  clear Bv2 Kav2 Zav2 Ktv2 Ztv2
  clear ca0 ca1 ca2 ca3 ca4 ca5 ca6 ca7 ca8 ca9
  have UN := hide (Rd.of_owns hgo)
  have hN12 := unitsR_len r
  clear hgo
  generalize hN : (unitsR r).length = N at *
  clear hN
  obtain ⟨wb, hwb⟩ : ∃ wb : World, wb = v3 := ⟨_, rfl⟩
  subst hwb
  have HWB := Bv3
  have Kawb := Kav3
  have Ktwb := Ktv3
  have Zawb := Zav3
  have Ztwb := Ztv3
  have HO := hide (own_lit0 (e := 3) (size := 1) wb (Nat.le_refl _))
  have HB0 : Hid (Below wb.heap.size wb (wb.alloc (.cells #[] 3))) := (Below.refl _ _).alloc (Nat.le_refl _) _
  go_wp2
  generalize (wb.alloc (.cells #[] 3)) = w0 at *
  go_loopw [8, 9] (fun o i wr => ∃ (k g cap : Nat), k ≤ n ∧ i = .int .i64 k ∧ o = .slice (some ⟨g, 0, none⟩) k cap ∧ wr.ownsRow wb.heap.size 3 1 (.slice (some ⟨g, 0, none⟩) k cap) k (ci ((us.take k).map (volAt (itemsR r)))) ∧ Below wb.heap.size wb wr) (fun _ i _ => n - (intOf i).toNat)
  case atStart => exact ⟨0, wb.heap.size, 0, Nat.zero_le _, rfl, rfl, unhide HO, unhide HB0⟩
  case round =>
  clear HO HB0
  obtain ⟨k, g, cap, hk, rfl, rfl, hown, hb⟩ := hrel
  have QKwr := hide hown
  have Bwr := hide hb
  by_cases hlk : k < n
  case pos =>
    have Kawr := hide (Blk.below hb Zawb (unhide Kawb))
    have Zawr : w.heap.size < wr.heap.size := Nat.lt_of_lt_of_le Zawb hb.size
    obtain ⟨b, off, hua, hcw⟩ := ((unhide HU).mono (unhide HWB)).2 k hlk
    have hku : k < us.length := by omega
    have hkc1 : k + 1 ≤ c := by omega
    have hkc2 : ¬ c = k := by omega
    have hkc3 : k < c := by omega
    have HST := hide (takeMapStep (volAt (itemsR r)) us k hku)
    generalize us.getD k 0 = x at hcw HST
    have HV1 : Hid (volOf (itemsR r) [x] = volAt (itemsR r) x) := by simp [Hid, volOf]
    subst hua
    have hcu : ∀ u, Below wb.heap.size wb u → u.cell? ⟨b, off + k, none⟩ = some (.int .i64 x) := fun u hb => (hb.cell (World.block_lt_of_cell? wb _ hcw)).trans hcw
    have hc := hcu _ hb
    clear hcw hown hb
    go_upto_region 7 with fail
    clear hc
    refine wp_region_noPanic ?_
    have Bu0 : Hid (Below wb.heap.size wb wr.drew) := (unhide Bwr).drew
    have QKu0 : Hid (wr.drew.ownsRow wb.heap.size 3 1 (.slice (some ⟨g, 0, none⟩) (k) cap) (k) (ci ((us.take k).map (volAt (itemsR r))))) := own_later (unhide QKwr) (Below.refl _ _).drew
    have Kau0 : Hid (Blk wr.drew w.heap.size [.int .i64 r.way, .int .i64 r.pal.wd, .int .i64 r.pal.dp, .int .i64 r.pal.ht, .int .i64 r.pal.gram, .int .i64 r.classes, .slice h.ap r.pairs.length h.cp, .slice h.at' r.types.length h.ct, .int .i64 r.master, .slice h.ai r.items.length h.ci]) := unhide Kawr
    have Zau0 : w.heap.size < wr.drew.heap.size := Zawr
    obtain ⟨S, hSdef⟩ : ∃ S : World → Prop, S = (fun w' => w'.cell? ⟨w.heap.size, 0, none⟩ = some (.int .i64 r.way) ∧ w'.cell? ⟨w.heap.size, 1, none⟩ = some (.int .i64 r.pal.wd) ∧ w'.cell? ⟨w.heap.size, 2, none⟩ = some (.int .i64 r.pal.dp) ∧ w'.cell? ⟨w.heap.size, 3, none⟩ = some (.int .i64 r.pal.ht) ∧ w'.cell? ⟨w.heap.size, 4, none⟩ = some (.int .i64 r.pal.gram) ∧ w'.cell? ⟨w.heap.size, 5, none⟩ = some (.int .i64 r.classes) ∧ w'.cell? ⟨w.heap.size, 6, none⟩ = some (.slice h.ap r.pairs.length h.cp) ∧ w'.cell? ⟨w.heap.size, 7, none⟩ = some (.slice h.at' r.types.length h.ct) ∧ w'.cell? ⟨w.heap.size, 8, none⟩ = some (.int .i64 r.master) ∧ w'.cell? ⟨w.heap.size, 9, none⟩ = some (.slice h.ai r.items.length h.ci)) := ⟨_, rfl⟩
    have hSmk : ∀ wq, Blk wq w.heap.size [.int .i64 r.way, .int .i64 r.pal.wd, .int .i64 r.pal.dp, .int .i64 r.pal.ht, .int .i64 r.pal.gram, .int .i64 r.classes, .slice h.ap r.pairs.length h.cp, .slice h.at' r.types.length h.ct, .int .i64 r.master, .slice h.ai r.items.length h.ci] → S wq := fun wq ka => by rw [hSdef]; exact ⟨(ka 0 (by simp)).1, (ka 1 (by simp)).1, (ka 2 (by simp)).1, (ka 3 (by simp)).1, (ka 4 (by simp)).1, (ka 5 (by simp)).1, (ka 6 (by simp)).1, (ka 7 (by simp)).1, (ka 8 (by simp)).1, (ka 9 (by simp)).1⟩
    have hSd : ∀ wq, S wq → (fun w' => w'.cell? ⟨w.heap.size, 0, none⟩ = some (.int .i64 r.way) ∧ w'.cell? ⟨w.heap.size, 1, none⟩ = some (.int .i64 r.pal.wd) ∧ w'.cell? ⟨w.heap.size, 2, none⟩ = some (.int .i64 r.pal.dp) ∧ w'.cell? ⟨w.heap.size, 3, none⟩ = some (.int .i64 r.pal.ht) ∧ w'.cell? ⟨w.heap.size, 4, none⟩ = some (.int .i64 r.pal.gram) ∧ w'.cell? ⟨w.heap.size, 5, none⟩ = some (.int .i64 r.classes) ∧ w'.cell? ⟨w.heap.size, 6, none⟩ = some (.slice h.ap r.pairs.length h.cp) ∧ w'.cell? ⟨w.heap.size, 7, none⟩ = some (.slice h.at' r.types.length h.ct) ∧ w'.cell? ⟨w.heap.size, 8, none⟩ = some (.int .i64 r.master) ∧ w'.cell? ⟨w.heap.size, 9, none⟩ = some (.slice h.ai r.items.length h.ci)) wq := fun wq h => by rw [hSdef] at h; exact h
    clear hSdef
    have hHeld : S wr.drew := hSmk wr.drew (unhide Kau0)
    refine wp_region_to (S := S) (T := []) (by kernel_rfl) hHeld (fun _ => ?_)
    generalize wr.drew = u0 at *
    refine wpTo_tk (i := 0) (v := ?_) rfl (by kernel_rfl) (Or.inl ⟨by rfl, ?_⟩) (by assumption) ?_
    rotate_left
    · intro w hSw
      have hSw := hSd _ hSw
      (try dsimp only at hSw)
      go_simp <;> with_reducible rfl
    refine wpTo_tk (i := 1) (v := ?_) rfl (by kernel_rfl) (Or.inl ⟨by rfl, ?_⟩) (by assumption) ?_
    rotate_left
    · intro w hSw
      have hSw := hSd _ hSw
      (try dsimp only at hSw)
      go_simp <;> with_reducible rfl
    refine wpTo_tk (i := 2) (v := ?_) rfl (by kernel_rfl) (Or.inl ⟨by rfl, ?_⟩) (by assumption) ?_
    rotate_left
    · intro w hSw
      have hSw := hSd _ hSw
      (try dsimp only at hSw)
      go_simp <;> with_reducible rfl
    try simp only [Act.put, List.getElem_toArray, List.getElem_cons_zero, List.getElem_cons_succ, List.setIfInBounds_toArray, List.set_cons_zero, List.set_cons_succ]
    refine wpTo_tk (i := 3) (v := ?_) rfl (by kernel_rfl) (Or.inl ⟨by rfl, ?_⟩) (by assumption) ?_
    rotate_left
    · intro w hSw
      have hSw := hSd _ hSw
      (try dsimp only at hSw)
      go_simp <;> with_reducible rfl
    refine wpTo_tk (i := 4) (v := ?_) rfl (by kernel_rfl) (Or.inl ⟨by rfl, ?_⟩) (by assumption) ?_
    rotate_left
    · intro w hSw
      have hSw := hSd _ hSw
      (try dsimp only at hSw)
      go_simp <;> with_reducible rfl
    refine wpTo_tk (i := 5) (v := ?_) rfl (by kernel_rfl) (Or.inl ⟨by rfl, ?_⟩) (by assumption) ?_
    rotate_left
    · intro w hSw
      have hSw := hSd _ hSw
      (try dsimp only at hSw)
      go_simp <;> with_reducible rfl
    try simp only [Act.put, List.getElem_toArray, List.getElem_cons_zero, List.getElem_cons_succ, List.setIfInBounds_toArray, List.set_cons_zero, List.set_cons_succ]
    refine wpTo_tk (i := 6) (v := ?_) rfl (by kernel_rfl) (Or.inl ⟨by rfl, ?_⟩) (by assumption) ?_
    rotate_left
    · intro w hSw
      have hSw := hSd _ hSw
      (try dsimp only at hSw)
      go_simp <;> with_reducible rfl
    try simp only [Act.put, List.getElem_toArray, List.getElem_cons_zero, List.getElem_cons_succ, List.setIfInBounds_toArray, List.set_cons_zero, List.set_cons_succ]
    rw [wrap_fits (x := (k : Int) + 1) (by omega) (by omega)]
    refine wpTo_inv (fun a0 listed ai wi => ∃ (b7 b8 b9 b10 b11 b12 : Bool) (gu gN cN : Nat), listed = #[true, true, true, true, true, true, true, b7, b8, b9, b10, b11, b12] ∧ ai = fillS b12 8 (.slice (some ⟨gN, 0, none⟩) (k + 1) cN) (fillS b11 41 (.slice (some ⟨gN, 0, none⟩) (k + 1) cN) (fillS b10 40 (.slice (some ⟨gu, 0, none⟩) 1 1) (fillS b9 39 (.int .i64 (volOf (itemsR r) [x])) (fillS b8 38 (.agg #[.int .i64 (volOf (itemsR r) [x]), .int .i64 (gramOf (itemsR r) [x])]) (fillS b7 37 (.slice (some ⟨b, off + k, none⟩) 1 (c - k)) (a0)))))) ∧ Hid (Below wb.heap.size wb wi) ∧ Hid (Fk b11 → wi.ownsRow wb.heap.size 3 1 (.slice (some ⟨g, 0, none⟩) (k) cap) (k) (ci ((us.take k).map (volAt (itemsR r))))) ∧ Hid (Tk b10 → Blk wi gu [.int .i64 (volOf (itemsR r) [x])] ∧ gu < wi.heap.size ∧ wb.heap.size ≤ gu) ∧ Hid (Tk b11 → wi.ownsRow wb.heap.size 3 1 (.slice (some ⟨gN, 0, none⟩) (k + 1) cN) (k + 1) (ci ((us.take k).map (volAt (itemsR r))) ++ [.int .i64 (volOf (itemsR r) [x])])) ∧ Hid (Tk b10 → Fk b11 → g ≠ gu) ∧ Hid (Tk b8 → Tk b7) ∧ Hid (Tk b9 → Tk b7 ∧ Tk b8) ∧ Hid (Tk b10 → Tk b7 ∧ Tk b8 ∧ Tk b9) ∧ Hid (Tk b11 → Tk b7 ∧ Tk b8 ∧ Tk b9 ∧ Tk b10) ∧ Hid (Tk b12 → Tk b7 ∧ Tk b8 ∧ Tk b9 ∧ Tk b10 ∧ Tk b11)) ⟨false, false, false, false, false, false, 0, 0, 0, rfl, by simp only [fillS_false], (unhide Bu0), (fun _ => unhide QKu0), (fun h => by cases h), (fun h => by cases h), (fun h _ => by cases h), (fun h => by cases h), (fun h => by cases h), (fun h => by cases h), (fun h => by cases h), (fun h => by cases h)⟩ ?hS ?hT ?step ?fin _ (by decide)
    case hS =>
      rintro listed ai wi ⟨b7, b8, b9, b10, b11, b12, gu, gN, cN, rfl, ha, FB, FOK, FKu, FON, FNKu, FC8, FC9, FC10, FC11, FC12⟩ hTf
      exact hSmk wi (Blk.below ((unhide FB)) Zawb (unhide Kawb))
    case hT =>
      exact fun _ _ _ _ f hf => by cases hf
    case step =>
      rintro listed ai wi i o ⟨b7, b8, b9, b10, b11, b12, gu, gN, cN, rfl, ha, FB, FOK, FKu, FON, FNKu, FC8, FC9, FC10, FC11, FC12⟩ ho hl hall
      have hi : i < 13 := (Array.getElem?_eq_some_iff.1 ho).1
      obtain rfl | rfl | rfl | rfl | rfl | rfl | rfl | rfl | rfl | rfl | rfl | rfl | rfl : i = 0 ∨ i = 1 ∨ i = 2 ∨ i = 3 ∨ i = 4 ∨ i = 5 ∨ i = 6 ∨ i = 7 ∨ i = 8 ∨ i = 9 ∨ i = 10 ∨ i = 11 ∨ i = 12 := by omega
      · exact absurd hl (by simp)
      · exact absurd hl (by simp)
      · exact absurd hl (by simp)
      · exact absurd hl (by simp)
      · exact absurd hl (by simp)
      · exact absurd hl (by simp)
      · exact absurd hl (by simp)
      · obtain rfl := Option.some.inj ho
        obtain rfl : b7 = false := by simpa using hl
        obtain rfl : b8 = false := Tk_no (fun p => by have h8 := (unhide FC8) p; simp [Tk] at h8)
        obtain rfl : b9 = false := Tk_no (fun p => by have h8 := (unhide FC9) p; simp [Tk] at h8)
        obtain rfl : b10 = false := Tk_no (fun p => by have h8 := (unhide FC10) p; simp [Tk] at h8)
        obtain rfl : b11 = false := Tk_no (fun p => by have h8 := (unhide FC11) p; simp [Tk] at h8)
        obtain rfl : b12 = false := Tk_no (fun p => by have h8 := (unhide FC12) p; simp [Tk] at h8)
        clear ho hl hall hi
        simp only [fillS, pickS_true, pickS_false, Act.put, Array.getD_eq_getD_getElem?, List.getElem?_toArray, List.getElem?_cons_zero, List.getElem?_cons_succ, Option.getD_some, List.getElem_toArray, List.getElem_cons_zero, List.getElem_cons_succ, List.setIfInBounds_toArray, List.set_cons_zero, List.set_cons_succ] at ha
        subst ha
        refine wpOp_stepS (o := _) rfl (fun K hK => ?_)
        go_simp
        rw [if_pos (show (0 : Int) ≤ (k : Int) + 1 ∧ (k : Int) + 1 ≤ (c : Int) from ⟨by omega, by omega⟩)]
        go_simp
        refine hK.out _ _ ?_
        exact ⟨true, false, false, false, false, false, gu, gN, cN, rfl, by simp only [fillS, pickS_true, pickS_false, Act.put, Array.getD_eq_getD_getElem?, List.getElem?_toArray, List.getElem?_cons_zero, List.getElem?_cons_succ, Option.getD_some, List.getElem_toArray, List.getElem_cons_zero, List.getElem_cons_succ, List.setIfInBounds_toArray, List.set_cons_zero, List.set_cons_succ], ((unhide FB)), (fun q11 => (unhide FOK q11)), (fun p10 => (by cases p10)), (fun p11 => (by cases p11)), (fun p10 q11 => (by cases p10)), (fun p8 => (by cases p8)), (fun p9 => (by cases p9)), (fun p10 => (by cases p10)), (fun p11 => (by cases p11)), (fun p12 => (by cases p12))⟩
      · obtain rfl := Option.some.inj ho
        obtain rfl : b8 = false := by simpa using hl
        obtain rfl : b7 = true := by simpa using hall ⟨7, .data⟩ (by simp) rfl
        obtain rfl : b9 = false := Tk_no (fun p => by have h8 := (unhide FC9) p; simp [Tk] at h8)
        obtain rfl : b10 = false := Tk_no (fun p => by have h8 := (unhide FC10) p; simp [Tk] at h8)
        obtain rfl : b11 = false := Tk_no (fun p => by have h8 := (unhide FC11) p; simp [Tk] at h8)
        obtain rfl : b12 = false := Tk_no (fun p => by have h8 := (unhide FC12) p; simp [Tk] at h8)
        clear ho hl hall hi
        simp only [fillS, pickS_true, pickS_false, Act.put, Array.getD_eq_getD_getElem?, List.getElem?_toArray, List.getElem?_cons_zero, List.getElem?_cons_succ, Option.getD_some, List.getElem_toArray, List.getElem_cons_zero, List.getElem_cons_succ, List.setIfInBounds_toArray, List.set_cons_zero, List.set_cons_succ] at ha
        subst ha
        refine wpOp_stepS (o := _) rfl (fun K hK => ?_)
        go_simp
        refine (l7Of_any r h (some ⟨gp, 0, none⟩) N cp (some ⟨b, off + k, none⟩) 1 (c - k) [x] wi ((unhide HR).mono ((unhide HWB).trans ((unhide FB).mono (unhide HWB).size))) ((unhide UN).mono (unhide FB)) (Rd.one (hcu _ (unhide FB))) (by omega)).mono ?_
        rintro e wz ⟨rfl, hb⟩
        go_wp2_with fail
        refine hK.out _ _ ?_
        exact ⟨true, true, false, false, false, false, gu, gN, cN, rfl, by simp only [fillS, pickS_true, pickS_false, Act.put, Array.getD_eq_getD_getElem?, List.getElem?_toArray, List.getElem?_cons_zero, List.getElem?_cons_succ, Option.getD_some, List.getElem_toArray, List.getElem_cons_zero, List.getElem_cons_succ, List.setIfInBounds_toArray, List.set_cons_zero, List.set_cons_succ], (((unhide FB).trans (hb.mono (unhide FB).size))), (fun q11 => (own_later (unhide FOK q11) hb)), (fun p10 => (by cases p10)), (fun p11 => (by cases p11)), (fun p10 q11 => (by cases p10)), (fun p8 => rfl), (fun p9 => (by cases p9)), (fun p10 => (by cases p10)), (fun p11 => (by cases p11)), (fun p12 => (by cases p12))⟩
      · obtain rfl := Option.some.inj ho
        obtain rfl : b9 = false := by simpa using hl
        obtain rfl : b8 = true := by simpa using hall ⟨8, .data⟩ (by simp) rfl
        obtain rfl := (unhide FC8) rfl
        obtain rfl : b10 = false := Tk_no (fun p => by have h8 := (unhide FC10) p; simp [Tk] at h8)
        obtain rfl : b11 = false := Tk_no (fun p => by have h8 := (unhide FC11) p; simp [Tk] at h8)
        obtain rfl : b12 = false := Tk_no (fun p => by have h8 := (unhide FC12) p; simp [Tk] at h8)
        clear ho hl hall hi
        simp only [fillS, pickS_true, pickS_false, Act.put, Array.getD_eq_getD_getElem?, List.getElem?_toArray, List.getElem?_cons_zero, List.getElem?_cons_succ, Option.getD_some, List.getElem_toArray, List.getElem_cons_zero, List.getElem_cons_succ, List.setIfInBounds_toArray, List.set_cons_zero, List.set_cons_succ] at ha
        subst ha
        refine wpOp_stepS (o := _) rfl (fun K hK => ?_)
        go_simp
        refine hK.out _ _ ?_
        exact ⟨true, true, true, false, false, false, gu, gN, cN, rfl, by simp only [fillS, pickS_true, pickS_false, Act.put, Array.getD_eq_getD_getElem?, List.getElem?_toArray, List.getElem?_cons_zero, List.getElem?_cons_succ, Option.getD_some, List.getElem_toArray, List.getElem_cons_zero, List.getElem_cons_succ, List.setIfInBounds_toArray, List.set_cons_zero, List.set_cons_succ], ((unhide FB)), (fun q11 => (unhide FOK q11)), (fun p10 => (by cases p10)), (fun p11 => (by cases p11)), (fun p10 q11 => (by cases p10)), (fun p8 => (unhide FC8 p8)), (fun p9 => ⟨rfl, rfl⟩), (fun p10 => (by cases p10)), (fun p11 => (by cases p11)), (fun p12 => (by cases p12))⟩
      · obtain rfl := Option.some.inj ho
        obtain rfl : b10 = false := by simpa using hl
        obtain rfl : b9 = true := by simpa using hall ⟨9, .data⟩ (by simp) rfl
        obtain ⟨rfl, rfl⟩ := (unhide FC9) rfl
        obtain rfl : b11 = false := Tk_no (fun p => by have h8 := (unhide FC11) p; simp [Tk] at h8)
        obtain rfl : b12 = false := Tk_no (fun p => by have h8 := (unhide FC12) p; simp [Tk] at h8)
        clear ho hl hall hi
        simp only [fillS, pickS_true, pickS_false, Act.put, Array.getD_eq_getD_getElem?, List.getElem?_toArray, List.getElem?_cons_zero, List.getElem?_cons_succ, Option.getD_some, List.getElem_toArray, List.getElem_cons_zero, List.getElem_cons_succ, List.setIfInBounds_toArray, List.set_cons_zero, List.set_cons_succ] at ha
        subst ha
        refine wpOp_stepS (o := _) rfl (fun K hK => ?_)
        go_simp
        refine hK.out _ _ ?_
        exact ⟨true, true, true, true, false, false, wi.heap.size, gN, cN, rfl, by simp only [fillS, pickS_true, pickS_false, Act.put, Array.getD_eq_getD_getElem?, List.getElem?_toArray, List.getElem?_cons_zero, List.getElem?_cons_succ, Option.getD_some, List.getElem_toArray, List.getElem_cons_zero, List.getElem_cons_succ, List.setIfInBounds_toArray, List.set_cons_zero, List.set_cons_succ], (((unhide FB).alloc (unhide FB).size _)), (fun q11 => ((unhide FOK q11).alloc _)), (fun p10 => ⟨Blk.allocAt [.int .i64 (volOf (itemsR r) [x])] (by rfl), lt_alloc_new wi _, ((unhide FB)).size⟩), (fun p11 => (by cases p11)), (fun p10 q11 => (Nat.ne_of_lt ((unhide FOK q11).lt _ rfl).2)), (fun p8 => (unhide FC8 p8)), (fun p9 => (unhide FC9 p9)), (fun p10 => ⟨rfl, rfl, rfl⟩), (fun p11 => (by cases p11)), (fun p12 => (by cases p12))⟩
      · obtain rfl := Option.some.inj ho
        obtain rfl : b11 = false := by simpa using hl
        obtain rfl : b10 = true := by simpa using hall ⟨10, .data⟩ (by simp) rfl
        obtain ⟨rfl, rfl, rfl⟩ := (unhide FC10) rfl
        obtain rfl : b12 = false := Tk_no (fun p => by have h8 := (unhide FC12) p; simp [Tk] at h8)
        clear ho hl hall hi
        simp only [fillS, pickS_true, pickS_false, Act.put, Array.getD_eq_getD_getElem?, List.getElem?_toArray, List.getElem?_cons_zero, List.getElem?_cons_succ, Option.getD_some, List.getElem_toArray, List.getElem_cons_zero, List.getElem_cons_succ, List.setIfInBounds_toArray, List.set_cons_zero, List.set_cons_succ] at ha
        subst ha
        have hsrc := (unhide FOK) rfl
        refine wpOp_stepS (o := _) rfl (fun K hK => ?_)
        refine step_append_some _ (by rfl) _ _ 29 (by rfl) wb.heap.size 3 j0 (.int .i64 0) 1 8 Tryz.underlying29 hj0 hy0 hy1 hy2 rfl (by omega) (.slice (some ⟨g, 0, none⟩) (k) cap) (k) (ci ((us.take k).map (volAt (itemsR r)))) (by rfl) hsrc (by simp) ⟨gu, 0, none⟩ (1) (1) ([.int .i64 (volOf (itemsR r) [x])]) (by rfl) rfl (((unhide FKu) rfl).1).news (by simp [Value.oneCell']) (by unfold maxLen; omega) (by omega) ((unhide FB)).size ?_
        intro gnew cnew wz hown hg hat hlt
        refine hK.out _ _ ?_
        exact ⟨true, true, true, true, true, false, gu, gnew, cnew, rfl, by simp only [fillS, pickS_true, pickS_false, Act.put, Array.getD_eq_getD_getElem?, List.getElem?_toArray, List.getElem?_cons_zero, List.getElem?_cons_succ, Option.getD_some, List.getElem_toArray, List.getElem_cons_zero, List.getElem_cons_succ, List.setIfInBounds_toArray, List.set_cons_zero, List.set_cons_succ], (((unhide FB).grown hg (unhide FB).size (fun b hb => by have := own_base hsrc; simp [Value.ownBlock] at hb; omega))), (fun q11 => (by cases q11)), (fun p10 => ⟨Blk.gb (unhide FKu p10).1 hg (unhide FKu p10).2.1 (Ne.symm (unhide FNKu p10 rfl)), Nat.lt_of_lt_of_le (unhide FKu p10).2.1 hg.size, (unhide FKu p10).2.2⟩), (fun p11 => hown), (fun p10 q11 => (by cases q11)), (fun p8 => (unhide FC8 p8)), (fun p9 => (unhide FC9 p9)), (fun p10 => (unhide FC10 p10)), (fun p11 => ⟨rfl, rfl, rfl, rfl⟩), (fun p12 => (by cases p12))⟩
      · obtain rfl := Option.some.inj ho
        obtain rfl : b12 = false := by simpa using hl
        obtain rfl : b11 = true := by simpa using hall ⟨11, .data⟩ (by simp) rfl
        obtain ⟨rfl, rfl, rfl, rfl⟩ := (unhide FC11) rfl
        clear ho hl hall hi
        simp only [fillS, pickS_true, pickS_false, Act.put, Array.getD_eq_getD_getElem?, List.getElem?_toArray, List.getElem?_cons_zero, List.getElem?_cons_succ, Option.getD_some, List.getElem_toArray, List.getElem_cons_zero, List.getElem_cons_succ, List.setIfInBounds_toArray, List.set_cons_zero, List.set_cons_succ] at ha
        subst ha
        refine wpOp_stepS (o := _) rfl (fun K hK => ?_)
        go_simp
        refine hK.out _ _ ?_
        exact ⟨true, true, true, true, true, true, gu, gN, cN, rfl, by simp only [fillS, pickS_true, pickS_false, Act.put, Array.getD_eq_getD_getElem?, List.getElem?_toArray, List.getElem?_cons_zero, List.getElem?_cons_succ, Option.getD_some, List.getElem_toArray, List.getElem_cons_zero, List.getElem_cons_succ, List.setIfInBounds_toArray, List.set_cons_zero, List.set_cons_succ], ((unhide FB)), (fun q11 => (by cases q11)), (fun p10 => (unhide FKu p10)), (fun p11 => (unhide FON p11)), (fun p10 q11 => (by cases q11)), (fun p8 => (unhide FC8 p8)), (fun p9 => (unhide FC9 p9)), (fun p10 => (unhide FC10 p10)), (fun p11 => (unhide FC11 p11)), (fun p12 => ⟨rfl, rfl, rfl, rfl, rfl⟩)⟩
    case fin =>
      rintro listed ai wi ⟨b7, b8, b9, b10, b11, b12, gu, gN, cN, rfl, ha, FB, FOK, FKu, FON, FNKu, FC8, FC9, FC10, FC11, FC12⟩ hall
      obtain rfl : b7 = true := by
        have h9 := hall 7 _ rfl (by
          intro e he hbd
          simp at he
          rcases he with rfl | rfl | rfl <;> simp
          )
        simpa using h9
      obtain rfl : b8 = true := by
        have h9 := hall 8 _ rfl (by
          intro e he hbd
          simp at he
          rcases he with rfl | rfl | rfl <;> simp
          )
        simpa using h9
      obtain rfl : b9 = true := by
        have h9 := hall 9 _ rfl (by
          intro e he hbd
          simp at he
          subst he
          simp
          )
        simpa using h9
      obtain rfl : b10 = true := by
        have h9 := hall 10 _ rfl (by
          intro e he hbd
          simp at he
          subst he
          simp
          )
        simpa using h9
      obtain rfl : b11 = true := by
        have h9 := hall 11 _ rfl (by
          intro e he hbd
          simp at he
          rcases he with rfl | rfl | rfl <;> simp
          )
        simpa using h9
      obtain rfl : b12 = true := by
        have h9 := hall 12 _ rfl (by
          intro e he hbd
          simp at he
          rcases he with rfl | rfl | rfl | rfl | rfl | rfl | rfl | rfl | rfl | rfl | rfl | rfl | rfl | rfl <;> simp
          )
        simpa using h9
      clear hall
      simp only [fillS, pickS_true, pickS_false, Act.put, Array.getD_eq_getD_getElem?, List.getElem?_toArray, List.getElem?_cons_zero, List.getElem?_cons_succ, Option.getD_some, List.getElem_toArray, List.getElem_cons_zero, List.getElem_cons_succ, List.setIfInBounds_toArray, List.set_cons_zero, List.set_cons_succ] at ha
      subst ha
      refine NoPanic.normal ?_
      have Bwi := FB
      have Kawi := hide (Blk.below (unhide FB) Zawb (unhide Kawb))
      have Zawi := Nat.lt_of_lt_of_le Zawb (unhide FB).size
      have Kuwi := hide ((unhide FKu) rfl).1
      have Zuwi := ((unhide FKu) rfl).2.1
      have Gu := ((unhide FKu) rfl).2.2
      have ONwi := hide ((unhide FON) rfl)
      clear FB FOK FKu FON FNKu FC8 FC9 FC10 FC11 FC12
      have HO3 : Hid (wi.ownsRow wb.heap.size 3 1 (.slice (some ⟨gN, 0, none⟩) (k + 1) cN) (k + 1) (ci ((us.take (k + 1)).map (volAt (itemsR r))))) := by rw [Hid, unhide HST, ciSnoc, ← unhide HV1]; exact unhide ONwi
      go_wp2
      go_roundw
      case rel => exact ⟨k + 1, gN, cN, by omega, by go_num, rfl, unhide HO3, unhide Bwi⟩
      case measure => simp [intOf]; omega
  obtain rfl : k = n := by omega
  have e : us.take k = us := List.take_of_length_le (by omega)
  rw [e] at hown
  have RK := hide (Rd.of_owns hown)
  have HWR := hide ((unhide HWB).trans (hb.mono (unhide HWB).size))
  have hbz := hb.size
  clear hown QKwr e
  go_wp2_with fail
  refine (specSortDown_any (some ⟨g, 0, none⟩) k cap (us.map (volAt (itemsR r))) wr (unhide RK) hn).mono ?_
  rintro e wd ⟨pg, pc, rfl, hpo, hb2⟩
  have PO : Hid (Rd wd (some ⟨pg, 0, none⟩) k ((placesU (itemsR r) us).map (fun p : Nat => (p : Int)))) := by
    have hl : us.length = k := by omega
    refine Rd.of_owns (base := wr.heap.size) (cap := pc) ?_
    rw [placesU, hl, List.map_map]
    exact hpo
  have hbb : Below wb.heap.size wb wd := hb.trans (hb2.mono hbz)
  have HWD := hide ((unhide HWB).trans (hbb.mono (unhide HWB).size))
  have UND := hide ((unhide UN).mono hbb)
  have Kawd := hide (Blk.below hbb Zawb (unhide Kawb))
  have Ktwd := hide (Blk.below hbb Ztwb (unhide Ktwb))
  have Zawd := Nat.lt_of_lt_of_le Zawb hbb.size
  have Ztwd := Nat.lt_of_lt_of_le Ztwb hbb.size
  have HO2 := hide (own2_new wd (Nat.le_refl _))
  have HB2 : Hid (Below wd.heap.size wd (wd.alloc (.cells #[] 29))) := (Below.refl _ _).alloc (Nat.le_refl _) _
  clear hpo hb2 hb hbb Bwr RK HWR hbz Kawb Ktwb Zawb Ztwb UN HWB
  go_wp2
  generalize (wd.alloc (.cells #[] 29)) = w9 at *
  clear wr
  go_loopw [11, 12] (fun o i wr => ∃ (j g cap m : Nat) (rows : List RowV), j ≤ k ∧ i = .int .i64 j ∧ rows.length = m ∧ o = .slice (some ⟨g, 0, none⟩) m cap ∧ rows.map RowV.l = firstTo (roomB (itemsR r) (masterV r)) (sortedU (itemsR r) us) j ∧ Own2 wr wd.heap.size g cap rows ∧ Below wd.heap.size wd wr) (fun _ i _ => k - (intOf i).toNat)
  case atStart => exact ⟨0, wd.heap.size, 0, 0, [], Nat.zero_le _, rfl, rfl, rfl, rfl, unhide HO2, unhide HB2⟩
  case round =>
    clear HO2 HB2
    obtain ⟨j, g, cap, m, rows, hj, rfl, hm, rfl, hgr, ho, hb⟩ := hrel
    have HG := hide hgr
    have QOwr := hide ho
    have Bwr := hide hb
    by_cases hlj : j < k
    case neg =>
      obtain rfl : j = k := by omega
      have HM := hide hm
      have HBW := hide ((unhide HWD).trans (hb.mono (unhide HWD).size))
      clear hgr ho hb hm
      go_wp2
      go_ret
      exact ⟨g, cap, rows, by rw [unhide HM]; rfl, (unhide QOwr).low (unhide HWD).size, unhide HG, unhide HBW⟩
    have hpl := placesU_lt (xs := itemsR r) (us := us) (k := j) (by omega)
    have c1 := Rd.at ((unhide PO).mono hb) j hlj
    rw [getD_map_cast (by rw [placesU_len]; omega)] at c1
    have HSA := hide (sortedU_at (xs := itemsR r) (us := us) (k := j) (by omega))
    have HST := hide (firstTo_step (roomB (itemsR r) (masterV r)) (sortedU (itemsR r) us) j (by rw [sortedU_len]; omega))
    rw [unhide HSA] at HST
    have htt := firstTo_tot (roomB (itemsR r) (masterV r)) (sortedU (itemsR r) us) j (by rw [sortedU_len]; omega)
    generalize (placesU (itemsR r) us).getD j 0 = pp at *
    have hppk : pp < k := by omega
    obtain ⟨b, off, hua, hcw⟩ := ((unhide HU).mono ((unhide HWD).trans (hb.mono (unhide HWD).size))).2 pp hppk
    generalize us.getD pp 0 = x at hcw HST
    rw [← unhide HG] at HST htt
    subst hua
    have hmk : m ≤ 1048580 := by have := htt.2; rw [List.length_map, hm] at this; omega
    have HTT := hide htt.1
    have HML := hide hm
    clear htt hgr ho hb hpl HSA HG
    go_wp2
    clear c1 hcw
    obtain ⟨wo, hwo⟩ : ∃ x : World, x = wr := ⟨_, rfl⟩
    subst hwo
    go_loopw [14, 15] (fun t kk wq => ∃ (i : Nat) (v z : Int), i ≤ m ∧ z = (i : Int) - 1 ∧ kk = .int .i64 z ∧ t = .int .i64 v ∧ ScanOk (roomB (itemsR r) (masterV r)) (rows.map RowV.l) x i v ∧ Own2 wq wd.heap.size g cap rows ∧ Below wd.heap.size wd wq) (fun _ kk _ => (intOf kk + 1).toNat)
    case atStart => exact ⟨m, -1, _, Nat.le_refl _, rfl, rfl, rfl, .inl ⟨rfl, fun p h1 h2 => by rw [List.length_map, unhide HML] at h2; omega⟩, unhide QOwr, unhide Bwr⟩
    case round =>
      clear QOwr Bwr
      obtain ⟨i, v, z, hi, hz9, rfl, rfl, hsc, ho, hb⟩ := hrel
      have HSC := hide hsc
      by_cases hi0 : 0 < i
      case pos =>
        obtain ⟨p, rfl⟩ : ∃ p, i = p + 1 := ⟨i - 1, by omega⟩
        obtain rfl : z = (p : Int) := by omega
        have hpm : p < m := by omega
        have hpr : p < rows.length := by omega
        have hp0 : (0 : Int) ≤ (p : Int) := by omega
        have QOwr := hide ho
        have Bwr := hide hb
        have Kawr := hide (Blk.below hb Zawd (unhide Kawd))
        have Ktwr := hide (Blk.below hb Ztwd (unhide Ktwd))
        have Zawr := Nat.lt_of_lt_of_le Zawd hb.size
        have Ztwr := Nat.lt_of_lt_of_le Ztwd hb.size
        have HROWL := hide (map_getD_l rows p hpr)
        have hll : (rows.getD p default).l.length ≤ 1048580 := by
          have h1 := tot2_row (rows.map RowV.l) p (by rw [List.length_map]; exact hpr)
          rw [unhide HROWL] at h1
          have := unhide HTT
          omega
        have HGC := hide (fun (u : World) (ho : Own2 u wd.heap.size g cap rows) => (ho.cell p hpr).1)
        have HRR := hide (fun (u : World) (ho : Own2 u wd.heap.size g cap rows) => own_reads (ho.rws.row p hpr))
        generalize rows.getD p default = rv at *
        have HGC2 : Hid (∀ u, Own2 u wd.heap.size g cap rows → u.cell? ⟨g, p, none⟩ = some (.slice (some ⟨rv.g, 0, none⟩) rv.l.length rv.cap)) := unhide HGC
        clear hsc ho hb HGC hz9
        go_upto_region 18 with fail
        go_cut [73] (fun v wc => v = .bool (roomB (itemsR r) (masterV r) rv.l x) ∧ Own2 wc wd.heap.size g cap rows ∧ Below wd.heap.size wd wc)
        case first =>
          refine wp_region_noPanic ?_
          have Bu0 : Hid (Below wd.heap.size wd wr.drew) := (unhide Bwr).drew
          have QOu0 : Hid (Own2 wr.drew wd.heap.size g cap rows) := (unhide QOwr).later (Below.refl _ _).drew
          have Kau0 : Hid (Blk wr.drew w.heap.size [.int .i64 r.way, .int .i64 r.pal.wd, .int .i64 r.pal.dp, .int .i64 r.pal.ht, .int .i64 r.pal.gram, .int .i64 r.classes, .slice h.ap r.pairs.length h.cp, .slice h.at' r.types.length h.ct, .int .i64 r.master, .slice h.ai r.items.length h.ci]) := unhide Kawr
          have Zau0 : w.heap.size < wr.drew.heap.size := Zawr
          have Ktu0 : Hid (Blk wr.drew v1.heap.size [.int .i64 (masterV r).id, .int .i64 (masterV r).wd, .int .i64 (masterV r).ht, .int .i64 (masterV r).dp, .int .i64 (masterV r).tare, .int .i64 (masterV r).gram, .int .i64 (masterV r).cost]) := unhide Ktwr
          have Ztu0 : v1.heap.size < wr.drew.heap.size := Ztwr
          obtain ⟨S, hSdef⟩ : ∃ S : World → Prop, S = (fun w' => w'.cell? ⟨w.heap.size, 0, none⟩ = some (.int .i64 r.way) ∧ w'.cell? ⟨w.heap.size, 1, none⟩ = some (.int .i64 r.pal.wd) ∧ w'.cell? ⟨w.heap.size, 2, none⟩ = some (.int .i64 r.pal.dp) ∧ w'.cell? ⟨w.heap.size, 3, none⟩ = some (.int .i64 r.pal.ht) ∧ w'.cell? ⟨w.heap.size, 4, none⟩ = some (.int .i64 r.pal.gram) ∧ w'.cell? ⟨w.heap.size, 5, none⟩ = some (.int .i64 r.classes) ∧ w'.cell? ⟨w.heap.size, 6, none⟩ = some (.slice h.ap r.pairs.length h.cp) ∧ w'.cell? ⟨w.heap.size, 7, none⟩ = some (.slice h.at' r.types.length h.ct) ∧ w'.cell? ⟨w.heap.size, 8, none⟩ = some (.int .i64 r.master) ∧ w'.cell? ⟨w.heap.size, 9, none⟩ = some (.slice h.ai r.items.length h.ci) ∧ w'.cell? ⟨v1.heap.size, 0, none⟩ = some (.int .i64 (masterV r).id) ∧ w'.cell? ⟨v1.heap.size, 1, none⟩ = some (.int .i64 (masterV r).wd) ∧ w'.cell? ⟨v1.heap.size, 2, none⟩ = some (.int .i64 (masterV r).ht) ∧ w'.cell? ⟨v1.heap.size, 3, none⟩ = some (.int .i64 (masterV r).dp) ∧ w'.cell? ⟨v1.heap.size, 4, none⟩ = some (.int .i64 (masterV r).tare) ∧ w'.cell? ⟨v1.heap.size, 5, none⟩ = some (.int .i64 (masterV r).gram) ∧ w'.cell? ⟨v1.heap.size, 6, none⟩ = some (.int .i64 (masterV r).cost) ∧ w'.cell? ⟨g, p, none⟩ = some (.slice (some ⟨rv.g, 0, none⟩) rv.l.length rv.cap)) := ⟨_, rfl⟩
          have hSmk : ∀ wq, Blk wq w.heap.size [.int .i64 r.way, .int .i64 r.pal.wd, .int .i64 r.pal.dp, .int .i64 r.pal.ht, .int .i64 r.pal.gram, .int .i64 r.classes, .slice h.ap r.pairs.length h.cp, .slice h.at' r.types.length h.ct, .int .i64 r.master, .slice h.ai r.items.length h.ci] → Blk wq v1.heap.size [.int .i64 (masterV r).id, .int .i64 (masterV r).wd, .int .i64 (masterV r).ht, .int .i64 (masterV r).dp, .int .i64 (masterV r).tare, .int .i64 (masterV r).gram, .int .i64 (masterV r).cost] → (wq.cell? ⟨g, p, none⟩ = some (.slice (some ⟨rv.g, 0, none⟩) rv.l.length rv.cap)) → S wq := fun wq ka kt p0 => by rw [hSdef]; exact ⟨(ka 0 (by simp)).1, (ka 1 (by simp)).1, (ka 2 (by simp)).1, (ka 3 (by simp)).1, (ka 4 (by simp)).1, (ka 5 (by simp)).1, (ka 6 (by simp)).1, (ka 7 (by simp)).1, (ka 8 (by simp)).1, (ka 9 (by simp)).1, (kt 0 (by simp)).1, (kt 1 (by simp)).1, (kt 2 (by simp)).1, (kt 3 (by simp)).1, (kt 4 (by simp)).1, (kt 5 (by simp)).1, (kt 6 (by simp)).1, p0⟩
          have hSd : ∀ wq, S wq → (fun w' => w'.cell? ⟨w.heap.size, 0, none⟩ = some (.int .i64 r.way) ∧ w'.cell? ⟨w.heap.size, 1, none⟩ = some (.int .i64 r.pal.wd) ∧ w'.cell? ⟨w.heap.size, 2, none⟩ = some (.int .i64 r.pal.dp) ∧ w'.cell? ⟨w.heap.size, 3, none⟩ = some (.int .i64 r.pal.ht) ∧ w'.cell? ⟨w.heap.size, 4, none⟩ = some (.int .i64 r.pal.gram) ∧ w'.cell? ⟨w.heap.size, 5, none⟩ = some (.int .i64 r.classes) ∧ w'.cell? ⟨w.heap.size, 6, none⟩ = some (.slice h.ap r.pairs.length h.cp) ∧ w'.cell? ⟨w.heap.size, 7, none⟩ = some (.slice h.at' r.types.length h.ct) ∧ w'.cell? ⟨w.heap.size, 8, none⟩ = some (.int .i64 r.master) ∧ w'.cell? ⟨w.heap.size, 9, none⟩ = some (.slice h.ai r.items.length h.ci) ∧ w'.cell? ⟨v1.heap.size, 0, none⟩ = some (.int .i64 (masterV r).id) ∧ w'.cell? ⟨v1.heap.size, 1, none⟩ = some (.int .i64 (masterV r).wd) ∧ w'.cell? ⟨v1.heap.size, 2, none⟩ = some (.int .i64 (masterV r).ht) ∧ w'.cell? ⟨v1.heap.size, 3, none⟩ = some (.int .i64 (masterV r).dp) ∧ w'.cell? ⟨v1.heap.size, 4, none⟩ = some (.int .i64 (masterV r).tare) ∧ w'.cell? ⟨v1.heap.size, 5, none⟩ = some (.int .i64 (masterV r).gram) ∧ w'.cell? ⟨v1.heap.size, 6, none⟩ = some (.int .i64 (masterV r).cost) ∧ w'.cell? ⟨g, p, none⟩ = some (.slice (some ⟨rv.g, 0, none⟩) rv.l.length rv.cap)) wq := fun wq h => by rw [hSdef] at h; exact h
          clear hSdef
          have hHeld : S wr.drew := hSmk wr.drew (unhide Kau0) (unhide Ktu0) ((unhide HGC2) _ (unhide QOu0))
          refine wp_region_to (S := S) (T := []) (by kernel_rfl) hHeld (fun _ => ?_)
          generalize wr.drew = u0 at *
          refine wpTo_tk (i := 0) (v := ?_) rfl (by kernel_rfl) (Or.inl ⟨by rfl, ?_⟩) (by assumption) ?_
          rotate_left
          · intro w hSw
            have hSw := hSd _ hSw
            (try dsimp only at hSw)
            go_simp <;> with_reducible rfl
          refine wpTo_tk (i := 1) (v := ?_) rfl (by kernel_rfl) (Or.inl ⟨by rfl, ?_⟩) (by assumption) ?_
          rotate_left
          · intro w hSw
            have hSw := hSd _ hSw
            (try dsimp only at hSw)
            go_simp <;> with_reducible rfl
          refine wpTo_tk (i := 2) (v := ?_) rfl (by kernel_rfl) (Or.inl ⟨by rfl, ?_⟩) (by assumption) ?_
          rotate_left
          · intro w hSw
            have hSw := hSd _ hSw
            (try dsimp only at hSw)
            go_simp <;> with_reducible rfl
          try simp only [Act.put, List.getElem_toArray, List.getElem_cons_zero, List.getElem_cons_succ, List.setIfInBounds_toArray, List.set_cons_zero, List.set_cons_succ]
          refine wpTo_tk (i := 3) (v := ?_) rfl (by kernel_rfl) (Or.inl ⟨by rfl, ?_⟩) (by assumption) ?_
          rotate_left
          · intro w hSw
            have hSw := hSd _ hSw
            (try dsimp only at hSw)
            go_simp <;> with_reducible rfl
          refine wpTo_tk (i := 4) (v := ?_) rfl (by kernel_rfl) (Or.inl ⟨by rfl, ?_⟩) (by assumption) ?_
          rotate_left
          · intro w hSw
            have hSw := hSd _ hSw
            (try dsimp only at hSw)
            go_simp <;> with_reducible rfl
          refine wpTo_tk (i := 5) (v := ?_) rfl (by kernel_rfl) (Or.inl ⟨by rfl, ?_⟩) (by assumption) ?_
          rotate_left
          · intro w hSw
            have hSw := hSd _ hSw
            (try dsimp only at hSw)
            go_simp <;> with_reducible rfl
          try simp only [Act.put, List.getElem_toArray, List.getElem_cons_zero, List.getElem_cons_succ, List.setIfInBounds_toArray, List.set_cons_zero, List.set_cons_succ]
          refine wpTo_tk (i := 6) (v := ?_) rfl (by kernel_rfl) (Or.inl ⟨by rfl, ?_⟩) (by assumption) ?_
          rotate_left
          · intro w hSw
            have hSw := hSd _ hSw
            (try dsimp only at hSw)
            go_simp <;> with_reducible rfl
          refine wpTo_tk (i := 7) (v := ?_) rfl (by kernel_rfl) (Or.inl ⟨by rfl, ?_⟩) (by assumption) ?_
          rotate_left
          · intro w hSw
            have hSw := hSd _ hSw
            (try dsimp only at hSw)
            go_simp <;> with_reducible rfl
          try simp only [Act.put, List.getElem_toArray, List.getElem_cons_zero, List.getElem_cons_succ, List.setIfInBounds_toArray, List.set_cons_zero, List.set_cons_succ]
          refine wpTo_ready (rs := [8]) (by kernel_rfl) (by simp) ?_
          refine AllTo.cons (o := _) rfl (fun K hK => ?_) ?_
          ·
           (try simp only [List.getElem_toArray, List.getElem_cons_zero, List.getElem_cons_succ])
           go_simp
           refine (l7Room_any r h (some ⟨gp, 0, none⟩) N cp (masterV r) rv.g 0 rv.l.length rv.cap rv.l x u0 ((unhide HR).mono ((unhide HWD).trans ((unhide Bu0).mono (unhide HWD).size))) ((unhide UND).mono (unhide Bu0)) ((unhide HRR) _ (unhide QOu0)) (by omega)).mono ?_
           rintro e u1 ⟨rfl, hb⟩
           have Bu1 := hide ((unhide Bu0).trans (hb.mono (unhide Bu0).size))
           have Kau1 := hide (Blk.below hb Zau0 (unhide Kau0))
           have Zau1 := Nat.lt_of_lt_of_le Zau0 hb.size
           have Ktu1 := hide (Blk.below hb Ztu0 (unhide Ktu0))
           have Ztu1 := Nat.lt_of_lt_of_le Ztu0 hb.size
           have QOu1 : Hid (Own2 u1 wd.heap.size g cap rows) := (unhide QOu0).later hb
           clear hb
           clear Bu0 Kau0 Zau0 Ktu0 Ztu0 QOu0
           clear hHeld
           go_wp2_with fail
           have hHeld := hSmk u1 (unhide Kau1) (unhide Ktu1) ((unhide HGC2) _ (unhide QOu1))
           refine hK.out _ _ (fun _ => hHeld) ?_
           clear hK K
           try simp only [Act.put, List.getElem_toArray, List.getElem_cons_zero, List.getElem_cons_succ, List.setIfInBounds_toArray, List.set_cons_zero, List.set_cons_succ]
           refine wpTo_done (by kernel_rfl) ?_ _
           refine NoPanic.normal ?_
           go_wp2_with fail
           go_meet
           case rel => exact ⟨rfl, unhide QOu1, unhide Bu1⟩
          exact AllTo.nil
        case rest =>
          clear Bwr Kawr Ktwr QOwr Zawr Ztwr
          obtain ⟨rfl, ho, hb⟩ := hcut
          have HOX := hide ho
          have HBX := hide hb
          have HLR : Hid (p < (rows.map RowV.l).length) := by rw [Hid, List.length_map]; exact hpr
          clear ho hb
          cases hroom : roomB (itemsR r) (masterV r) rv.l x
          case false =>
            have HS2 : Hid (ScanOk (roomB (itemsR r) (masterV r)) (rows.map RowV.l) x p v) := ScanOk.miss (by rw [unhide HROWL]; exact hroom) (unhide HSC)
            clear hroom
            go_wp2
            go_roundw
            case rel => exact ⟨p, v, _, by omega, rfl, by go_num, rfl, unhide HS2, unhide HOX, unhide HBX⟩
            case measure => simp [intOf]
          case true =>
            have HS2 : Hid (ScanOk (roomB (itemsR r) (masterV r)) (rows.map RowV.l) x p (p : Int)) := ScanOk.hit (unhide HLR) (by rw [unhide HROWL]; exact hroom)
            clear hroom
            go_wp2
            go_roundw
            case rel => exact ⟨p, (p : Int), _, by omega, rfl, by go_num, rfl, unhide HS2, unhide HOX, unhide HBX⟩
            case measure => simp [intOf]
      obtain rfl : i = 0 := by omega
      have hzn : ¬ (0 : Int) ≤ z := by omega
      have HOX := hide ho
      have HBX := hide hb
      obtain ⟨wx, hwx⟩ : ∃ w8 : World, w8 = wr := ⟨_, rfl⟩
      subst hwx
      have hsc2 := hsc
      clear ho hb hsc hi0
      rcases hsc2 with ⟨rfl, _⟩ | ⟨q, rfl, _, _, _, _⟩
      case inl =>
        have HPA : Hid (firstStep (roomB (itemsR r) (masterV r)) (rows.map RowV.l) x = rows.map RowV.l ++ [[x]]) := (unhide HSC).none
        have hsx : wd.heap.size ≤ wx.heap.size := (unhide HBX).size
        have O2 := hide ((unhide HOX).later ((Below.refl _ wx).alloc (Nat.le_refl _) (.cells #[.int .i64 x] 3)))
        have R2 : Hid (RowV.own (wx.alloc (.cells #[.int .i64 x] 3)) wd.heap.size ⟨wx.heap.size, 1, [x]⟩) := World.ownsRow_lit wx #[.int .i64 x] 1 (by omega) (by unfold maxLen; omega) rfl
        have O3 := hide ((unhide O2).later ((Below.refl _ (wx.alloc (.cells #[.int .i64 x] 3))).alloc (Nat.le_refl _) (.cells #[.slice (some ⟨wx.heap.size, 0, none⟩) 1 1] 29)))
        have R3 := hide ((unhide R2).later ((Below.refl _ (wx.alloc (.cells #[.int .i64 x] 3))).alloc (Nat.le_refl _) (.cells #[.slice (some ⟨wx.heap.size, 0, none⟩) 1 1] 29)))
        have O3L : Hid ((((wx.alloc (.cells #[.int .i64 x] 3)).alloc (.cells #[.slice (some ⟨wx.heap.size, 0, none⟩) 1 1] 29))).ownsRow wd.heap.size 29 1 (.slice (some ⟨g, 0, none⟩) m cap) m (rows.map RowV.val)) := by have := (unhide O3).out; rw [unhide HML] at this; exact this
        clear hm
        go_wp2_with (first
          | (at_builtin; refine wpList_append_lies _ rfl _ _ 89 rfl wd.heap.size 29 i0 (.slice none 0 0) 1 24 Tryz.underlying89 hi0 hz0 hz1 hz2 rfl (by omega) (.slice (some ⟨g, 0, none⟩) m cap) m (rows.map RowV.val) rfl (unhide O3L) ⟨wx.heap.size + 1, 0, none⟩ 1 1 [.slice (some ⟨wx.heap.size, 0, none⟩) 1 1] rfl rfl (World.news_of_block (by have := heap_alloc_new (wx.alloc (.cells #[.int .i64 x] 3)) (.cells #[.slice (some ⟨wx.heap.size, 0, none⟩) 1 1] 29); simpa using this)) (by simp [Value.oneCell']) (by omega) (by unfold maxLen; omega) (by omega) (by simp; omega) (wx.heap.size + 2) (by simp) ?_; intro g3 cap3 w3 ho3 hg3 hat3 hlt3)
          | fail)
        have O4 := hide ((unhide O3).pushed (r := ⟨wx.heap.size, 1, [x]⟩) (unhide R3) (fun i hi e => by have h := ((unhide HOX).rws.row i hi).lt.2; have e' : (rows.getD i default).g = wx.heap.size := e; omega) (by have h := ((unhide HOX).out.lt g rfl).2; show wx.heap.size ≠ g; omega) (by rw [unhide HML]; exact ho3) hg3 hat3 (by simp))
        have B4 : Hid (Below wd.heap.size wd w3) := (((unhide HBX).alloc (by omega) _).alloc (by simp; omega) _).grown hg3 (by simp; omega) (fun e hk => by have := own_base (unhide HOX).out; simp [Value.ownBlock] at hk; omega)
        clear ho3 hg3 hat3 hlt3
        go_wp2
        go_roundw
        case rel => exact ⟨j + 1, g3, cap3, m + 1, rows ++ [⟨wx.heap.size, 1, [x]⟩], by omega, by go_num, by rw [List.length_append, unhide HML]; rfl, rfl, by rw [unhide HST, unhide HPA, List.map_append]; rfl, unhide O4, unhide B4⟩
        case measure => simp [intOf]; omega
      case inr =>
        obtain ⟨hq, hpa⟩ := (unhide HSC).some
        rw [List.length_map] at hq
        have hqm : q < m := by omega
        have hq0 : ¬ (q : Int) < 0 := by omega
        have HROWL := hide (map_getD_l rows q hq)
        rw [unhide HROWL] at hpa
        have hll : (rows.getD q default).l.length ≤ 1048580 := by
          have h1 := tot2_row (rows.map RowV.l) q (by rw [List.length_map]; exact hq)
          rw [unhide HROWL] at h1
          have := unhide HTT
          omega
        have O2 := hide ((unhide HOX).later ((Below.refl _ wx).alloc (Nat.le_refl _) (.cells #[.int .i64 x] 3)))
        have hcq := ((unhide HOX).cell q hq).1
        have hrq := (unhide O2).rws.row q hq
        have HGREW := hide (fun (W w3 : World) (r' : RowV) (H : Nat) (h : Own2 W wd.heap.size g cap rows) => h.grew (w3 := w3) (r := r') (H := H) hq)
        have HGB : Hid (wd.heap.size ≤ g) := ((unhide HOX).out.lt g rfl).1
        have hsx : wd.heap.size ≤ wx.heap.size := (unhide HBX).size
        generalize rows.getD q default = rv at *
        have HPA := hide hpa
        have HRO : Hid ((wx.alloc (.cells #[.int .i64 x] 3)).ownsRow wd.heap.size 3 1 (.slice (some ⟨rv.g, 0, none⟩) rv.l.length rv.cap) rv.l.length (rv.l.map (Value.int .i64))) := hrq
        have HRB : Hid (wd.heap.size ≤ rv.g) := (World.ownsRow.lt (unhide HRO) rv.g rfl).1
        unfold RowV.val at hcq
        clear hrq hpa hq hm
        go_wp2_with (first
          | (at_builtin; refine wpList_append_lies _ rfl _ _ 29 rfl wd.heap.size 3 j0 (.int .i64 0) 1 8 Tryz.underlying29 hj0 hy0 hy1 hy2 rfl (by omega) (.slice (some ⟨rv.g, 0, none⟩) rv.l.length rv.cap) rv.l.length (rv.l.map (Value.int .i64)) rfl (unhide HRO) ⟨wx.heap.size, 0, none⟩ 1 1 [.int .i64 x] rfl rfl (World.news_of_block (heap_alloc_new _ _)) (by simp [Value.oneCell']) (by omega) (by unfold maxLen; omega) (by omega) (by simp; omega) (wx.heap.size + 1) (by simp) ?_; intro g3 cap3 w3 ho hg hat hlt; have RN : RowV.own w3 wd.heap.size ⟨g3, cap3, rv.l ++ [x]⟩ := (by unfold RowV.own; rw [List.length_append, List.map_append]; exact ho); obtain ⟨c4, f4, hO4⟩ := (unhide HGREW) _ w3 ⟨g3, cap3, rv.l ++ [x]⟩ (wx.heap.size + 1) (unhide O2) RN hg hat (by simp); have hv4 : RowV.val ⟨g3, cap3, rv.l ++ [x]⟩ = .slice (some ⟨g3, 0, none⟩) (rv.l.length + 1) cap3 := (by unfold RowV.val; rw [List.length_append]; rfl); rw [hv4] at hO4; unfold RowV.val at c4; have HO4 := hide hO4; have HB4 := hide ((((unhide HBX).alloc hsx (.cells #[.int .i64 x] 3)).grown hg (by simp; omega) (fun e he => by simp [Value.ownBlock] at he; have := unhide HRB; omega)).setCell (p := ⟨g, q, none⟩) (unhide HGB) (.slice (some ⟨g3, 0, none⟩) (rv.l.length + 1) cap3)); clear ho hg hat hlt hO4 RN hv4)
          | fail)
        go_wp2
        go_roundw
        case rel => exact ⟨j + 1, g, cap, m, rows.set q ⟨g3, cap3, rv.l ++ [x]⟩, by omega, by go_num, by rw [List.length_set]; exact unhide HML, rfl, by rw [unhide HST, unhide HPA, List.map_set], unhide HO4, unhide HB4⟩
        case measure => simp [intOf]; omega
end Go.Proofs.YtphdeojiehigpaaGreatDoor
