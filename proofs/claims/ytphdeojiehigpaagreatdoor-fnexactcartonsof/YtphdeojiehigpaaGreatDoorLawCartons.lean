/- The law of FnExactCartonsOf, walked. -/
import Derived.Test.YtphdeojiehigpaaGreatDoorCartonsImpl
import Derived.Test.YtphdeojiehigpaaGreatDoorCartonsSpec
import Derived.Test.YtphdeojiehigpaaGreatDoorCartons3
import Derived.Test.YtphdeojiehigpaaGreatDoorPkH
import Derived.Deep.DeepMust
import Derived.Deep.DeepCutAuto
namespace Go.Proofs.YtphdeojiehigpaaGreatDoor
open Go.RowKit
set_option linter.unusedVariables false
theorem OwnC.kept {w w' : World} {B g cap : Nat} {xs : List CRow} {b : Nat} (h : OwnC w B g cap xs) (hg : w.grownBy w' (some b)) (hb : b < B) : OwnC w' B g cap xs :=
  ⟨h.out.kept hg (Or.inr (by have := own_base h.out; intro e; simp [Value.ownBlock] at e; omega)), h.rws.kept hg fun i hi e => by have := (h.rws.row i hi).lt.1; injection e with e; omega⟩
theorem Turn3.ownC {w w' : World} {a b c : Nat} (h : Turn3 w w' a b c) {B g cap : Nat} {xs : List CRow} (ho : OwnC w B g cap xs) (ha : a < B) (hb : b < B) (hc : c < B) : OwnC w' B g cap xs := by
  obtain ⟨w1, w2, h1, h2, h3⟩ := h
  exact ((ho.kept h1 ha).kept h2 hb).kept h3 hc
theorem cartonsR_len (r : ReqV) : (cartonsR r).length ≤ 48 := by
  have h1 := cartonsTo_len r (groupsR r).length
  have h2 := groupsR_len r
  unfold cartonsR
  omega
theorem cartonsR_us (r : ReqV) : ∀ x ∈ cartonsR r, x.us.length ≤ 12 := by
  intro x hx
  unfold cartonsR cartonsTo at hx
  obtain ⟨k, _, hk⟩ := List.mem_flatMap.1 hx
  obtain ⟨c, hc, rfl⟩ := List.mem_map.1 hk
  have h1 := (packR_tot r (unitsOfR r (k : Int))).1
  have h2 := unitsOfR_len r (k : Int)
  have h3 : c.length ≤ tot2 (packR r (unitsOfR r (k : Int))) := by
    obtain ⟨i, hi, rfl⟩ := List.getElem_of_mem hc
    have := tot2_row (packR r (unitsOfR r (k : Int))) i hi
    simpa [List.getD_eq_getElem?_getD, hi] using this
  show (upL c).length ≤ 12
  rw [(upL_perm c).length_eq]
  omega
theorem cartonsR_row (r : ReqV) (i : Nat) (hi : i < (cartonsR r).length) : ((cartonsR r).getD i default).us.length ≤ 12 := by
  refine cartonsR_us r _ ?_
  rw [List.getD_eq_getElem?_getD, List.getElem?_eq_getElem hi]
  exact List.getElem_mem _
theorem totX_bnd : ∀ (xs : List CRow), (∀ x ∈ xs, x.l.length ≤ 12) → totX xs ≤ 14 * xs.length
  | [], _ => by simp [totX]
  | x :: xs, h => by
    have ih := totX_bnd xs (fun y hy => h y (List.mem_cons_of_mem _ hy))
    have h1 := h x List.mem_cons_self
    simp only [totX, List.map_cons, List.sum_cons, List.length_cons] at *
    omega
theorem cartons_small {r : ReqV} {xs : List CRow} (h : xs.map CRow.car = cartonsR r) : xs.length ≤ 48 ∧ totX xs ≤ 672 := by
  have h1 : xs.length = (cartonsR r).length := by rw [← h, List.length_map]
  have h2 := cartonsR_len r
  have h3 := totX_bnd xs (fun x hx => cartonsR_us r x.car (by rw [← h]; exact List.mem_map.2 ⟨x, hx, rfl⟩))
  omega
set_option maxRecDepth 100000 in
set_option maxHeartbeats 4000000 in
theorem law_cartonsOf (r : ReqV) (h : ReqH) (w : World) (hr : RdReq w r h) (hp : r.pairs.length ≤ maxLen) (ht : r.types.length ≤ maxLen) (hi : r.items.length ≤ maxLen) (hg : ErrT w) :
    Calls Tryz.prog 6 #[reqVal r h] w fun e w' => e = .returned (.bool true) ∧ Below w.heap.size w w' := by
  have hL12 : (cartonsR r).length ≤ 48 := cartonsR_len r
  by_cases hs : (1048576 : Int) - r.pairs.length - r.types.length - r.items.length < 0
  · unfold reqVal
    go_enter Tryz.func6, Tryz.ntmps6
    go_wp2_with fail
    refine (szRequest_any r h _ _ (by omega) (by omega) hp ht hi).mono ?_
    rintro e w1 ⟨rfl, hb1⟩
    rw [if_pos (by omega)]
    have H1 : Hid (Below w.heap.size w w1) := ((Below.refl w.heap.size w).alloc (Nat.le_refl _) _).trans (hb1.mono (by simp))
    clear hb1
    go_wp2_with fail
    go_ret
    exact ⟨rfl, unhide H1⟩
  have hsm : r.small := by unfold ReqV.small; omega
  have htl : r.types.length ≤ 1048600 := by unfold ReqV.small at hsm; omega
  unfold reqVal
  go_enter Tryz.func6, Tryz.ntmps6
  go_wp2_with fail
  generalize hW : (w.alloc (.cells #[.int .i64 r.way, .int .i64 r.pal.wd, .int .i64 r.pal.dp, .int .i64 r.pal.ht, .int .i64 r.pal.gram, .int .i64 r.classes, .slice h.ap r.pairs.length h.cp, .slice h.at' r.types.length h.ct, .int .i64 r.master, .slice h.ai r.items.length h.ci] 28)) = w1 at *
  obtain ⟨hb, Kaw1, zaw1⟩ := en1 hW
  have hb := unhide hb
  have Hw1 : Hid (Below w.heap.size w w1) := hb
  clear hb hW
  have Qrw1 : Hid (RdReq w1 r h) := hr.mono Hw1.out
  refine (szRequest_any r h _ _ (by omega) (by omega) hp ht hi).mono ?_
  rintro e w2 ⟨rfl, hbw2⟩
  have Hw2 : Hid (Below w.heap.size w w2) := Hw1.out.trans (hbw2.mono Hw1.out.size)
  have Kaw2 := hide (Blk.below hbw2 zaw1 Kaw1.out)
  have zaw2 : w.heap.size < w2.heap.size := Nat.lt_of_lt_of_le zaw1 hbw2.size
  have Qrw2 : Hid (RdReq w2 r h) := Qrw1.out.mono hbw2
  clear Hw1 Kaw1 zaw1 Qrw1
  clear hbw2
  rw [if_neg (by omega)]
  have Qgw2 : Hid (ErrT w2) := hg.later Hw2.out
  obtain ⟨aw2_0, aw2_1, aw2_2, aw2_3, aw2_4, aw2_5, aw2_6, aw2_7, aw2_8, aw2_9⟩ := Blk.cs10 Kaw2.out
  go_wp2_with fail
  refine (toRequest_any r h _ Qrw2.out hsm).mono ?_
  rintro e w3 ⟨h3, rfl, hq, hf, hbw3⟩
  clear aw2_0 aw2_1 aw2_2 aw2_3 aw2_4 aw2_5 aw2_6 aw2_7 aw2_8 aw2_9
  have Hw3 : Hid (Below w.heap.size w w3) := Hw2.out.trans (hbw3.mono Hw2.out.size)
  have Kaw3 := hide (Blk.below hbw3 zaw2 Kaw2.out)
  have zaw3 : w.heap.size < w3.heap.size := Nat.lt_of_lt_of_le zaw2 hbw3.size
  have Qrw3 : Hid (RdReq w3 r h) := Qrw2.out.mono hbw3
  have Qgw3 : Hid (ErrT w3) := Qgw2.out.later hbw3
  clear Hw2 Kaw2 zaw2 Qrw2 Qgw2
  clear hbw3
  have Qc3w3 : Hid (RdReq w3 r h3) := hq
  clear hq hf
  unfold reqVal
  go_wp2_with fail
  refine (specCartonsOf_any r h3 _ Qc3w3.out hsm).mono ?_
  rintro e w4 ⟨g0, cap0, xs0, rfl, hw0, hx0, hbw4⟩
  have Hw4 : Hid (Below w.heap.size w w4) := Hw3.out.trans (hbw4.mono Hw3.out.size)
  have Kaw4 := hide (Blk.below hbw4 zaw3 Kaw3.out)
  have zaw4 : w.heap.size < w4.heap.size := Nat.lt_of_lt_of_le zaw3 hbw4.size
  have Qrw4 : Hid (RdReq w4 r h) := Qrw3.out.mono hbw4
  have Qgw4 : Hid (ErrT w4) := Qgw3.out.later hbw4
  have Qc3w4 : Hid (RdReq w4 r h3) := Qc3w3.out.mono hbw4
  clear Hw3 Kaw3 zaw3 Qrw3 Qgw3 Qc3w3
  clear hbw4
  have hl0 : xs0.length = ((cartonsR r)).length := by rw [← hx0, List.length_map]
  have hw1 := hw0.read
  rw [hx0] at hw1
  rw [hl0] at hw1 ⊢
  clear hw0 hx0 hl0
  have Qww4 : Hid (RdC w4 (some ⟨g0, 0, none⟩) ((cartonsR r).length) ((cartonsR r))) := hw1
  clear hw1
  clear Qc3w4
  have SH : Hid (Below w.heap.size w w4) := Hw4
  have SK := Kaw4
  have Sz : w.heap.size < w4.heap.size := zaw4
  have SW := Qww4
  obtain ⟨aw4_0, aw4_1, aw4_2, aw4_3, aw4_4, aw4_5, aw4_6, aw4_7, aw4_8, aw4_9⟩ := Blk.cs10 Kaw4.out
  go_wp2_with fail
  refine (toRequest_own3 r h _ Qrw4.out hsm).mono ?_
  rintro e w5 ⟨h5, gp, gt, gi, rfl, hq, ho, hb⟩
  clear aw4_0 aw4_1 aw4_2 aw4_3 aw4_4 aw4_5 aw4_6 aw4_7 aw4_8 aw4_9
  obtain ⟨x1, x2, x3⟩ : w4.heap.size ≤ gp ∧ gp < gt ∧ gt < gi := ⟨ho.2.1, ho.2.2.1, ho.2.2.2.1⟩
  have Hw5 : Hid (Below w.heap.size w w5) := Hw4.out.trans (hb.mono Hw4.out.size)
  have Kaw5 := hide (Blk.below hb zaw4 Kaw4.out)
  have zaw5 : w.heap.size < w5.heap.size := Nat.lt_of_lt_of_le zaw4 hb.size
  have Qrw5 : Hid (RdReq w5 r h) := Qrw4.out.mono hb
  have Qgw5 : Hid (ErrT w5) := Qgw4.out.later hb
  have Qww5 : Hid (RdC w5 (some ⟨g0, 0, none⟩) ((cartonsR r).length) ((cartonsR r))) := RdC.mono Qww4.out hb
  clear Hw4 Kaw4 zaw4 Qrw4 Qgw4 Qww4
  have Qc5w5 : Hid (RdReq w5 r h5) := hq
  have Qow5 : Hid (OwnReq w5 w4.heap.size r h5 gp gt gi) := ho
  have Qpw5 : Hid (Below w4.heap.size w4 w5) := hb
  clear hq ho hb
  unfold reqVal
  go_wp2_with fail
  generalize hW : (w5.alloc (.cells #[.int .i64 r.way, .int .i64 r.pal.wd, .int .i64 r.pal.dp, .int .i64 r.pal.ht, .int .i64 r.pal.gram, .int .i64 r.classes, .slice h5.ap r.pairs.length h5.cp, .slice h5.at' r.types.length h5.ct, .int .i64 r.master, .slice h5.ai r.items.length h5.ci] 40)) = w6 at *
  obtain ⟨hb, Kxw6, zxw6⟩ := en1 hW
  have hb := unhide hb
  have Hw6 : Hid (Below w.heap.size w w6) := Hw5.out.trans (hb.mono Hw5.out.size)
  have Kaw6 := hide (Blk.below hb zaw5 Kaw5.out)
  have zaw6 : w.heap.size < w6.heap.size := Nat.lt_of_lt_of_le zaw5 hb.size
  have Qrw6 : Hid (RdReq w6 r h) := Qrw5.out.mono hb
  have Qgw6 : Hid (ErrT w6) := Qgw5.out.later hb
  have Qww6 : Hid (RdC w6 (some ⟨g0, 0, none⟩) ((cartonsR r).length) ((cartonsR r))) := RdC.mono Qww5.out hb
  have Qc5w6 : Hid (RdReq w6 r h5) := Qc5w5.out.mono hb
  have Qow6 : Hid (OwnReq w6 w4.heap.size r h5 gp gt gi) := Qow5.out.later hb
  have Qpw6 : Hid (Below w4.heap.size w4 w6) := Qpw5.out.trans (hb.mono Qpw5.out.size)
  clear Hw5 Kaw5 zaw5 Qrw5 Qgw5 Qww5 Qc5w5 Qow5 Qpw5
  clear hb hW
  have x4 : gi < w6.heap.size := Qow6.out.2.2.2.2.1
  refine (cartonsOf_any r h5 _ Qc5w6.out hsm Qgw6.out).mono ?_
  rintro e w7 ⟨g1, cap1, xs1, rfl, ho1, hx1, hbw7⟩
  have Hw7 : Hid (Below w.heap.size w w7) := Hw6.out.trans (hbw7.mono Hw6.out.size)
  have Kaw7 := hide (Blk.below hbw7 zaw6 Kaw6.out)
  have zaw7 : w.heap.size < w7.heap.size := Nat.lt_of_lt_of_le zaw6 hbw7.size
  have Kxw7 := hide (Blk.below hbw7 zxw6 Kxw6.out)
  have zxw7 : w5.heap.size < w7.heap.size := Nat.lt_of_lt_of_le zxw6 hbw7.size
  have Qrw7 : Hid (RdReq w7 r h) := Qrw6.out.mono hbw7
  have Qgw7 : Hid (ErrT w7) := Qgw6.out.later hbw7
  have Qww7 : Hid (RdC w7 (some ⟨g0, 0, none⟩) ((cartonsR r).length) ((cartonsR r))) := RdC.mono Qww6.out hbw7
  have Qc5w7 : Hid (RdReq w7 r h5) := Qc5w6.out.mono hbw7
  have Qow7 : Hid (OwnReq w7 w4.heap.size r h5 gp gt gi) := Qow6.out.later hbw7
  have Qpw7 : Hid (Below w4.heap.size w4 w7) := Qpw6.out.trans (hbw7.mono Qpw6.out.size)
  clear Hw6 Kaw6 zaw6 Kxw6 zxw6 Qrw6 Qgw6 Qww6 Qc5w6 Qow6 Qpw6
  clear hbw7
  have hl1 : xs1.length = ((cartonsR r)).length := by rw [← hx1, List.length_map]
  have hl4 : xs1.length ≤ 48 := (cartons_small hx1).1
  have ht16 : totX xs1 ≤ 672 := (cartons_small hx1).2
  have hrow6 : ∀ i, i < ((cartonsR r)).length → (((cartonsR r)).getD i default).us.length ≤ 1048576 := fun i hi => Nat.le_trans (cartonsR_row r i hi) (by omega)
  have HL1 := hide hl1
  have HX1 := hide hx1
  rw [hl1]
  clear hl1 hx1
  have Quw7 : Hid (OwnC w7 w6.heap.size g1 cap1 xs1) := ho1
  have HRD : Hid (∀ W, OwnC W w6.heap.size g1 cap1 xs1 → RdC W (some ⟨g1, 0, none⟩) ((cartonsR r).length) ((cartonsR r))) := fun W ho => by have := ho.read; rw [unhide HX1, unhide HL1] at this; exact this
  clear ho1
  obtain ⟨aw7_0, aw7_1, aw7_2, aw7_3, aw7_4, aw7_5, aw7_6, aw7_7, aw7_8, aw7_9⟩ := Blk.cs10 Kaw7.out
  obtain ⟨xw7_0, xw7_1, xw7_2, xw7_3, xw7_4, xw7_5, xw7_6, xw7_7, xw7_8, xw7_9⟩ := Blk.cs10 Kxw7.out
  go_wp2_with fail
  refine (eqCartonS_same _ _ _ _ _ ((cartonsR r)) _ (HRD.out _ Quw7.out) Qww7.out (by omega) hrow6).mono ?_
  rintro e w8 ⟨rfl, hbw8⟩
  clear aw7_0 aw7_1 aw7_2 aw7_3 aw7_4 aw7_5 aw7_6 aw7_7 aw7_8 aw7_9 xw7_0 xw7_1 xw7_2 xw7_3 xw7_4 xw7_5 xw7_6 xw7_7 xw7_8 xw7_9
  have Hw8 : Hid (Below w.heap.size w w8) := Hw7.out.trans (hbw8.mono Hw7.out.size)
  have Kaw8 := hide (Blk.below hbw8 zaw7 Kaw7.out)
  have zaw8 : w.heap.size < w8.heap.size := Nat.lt_of_lt_of_le zaw7 hbw8.size
  have Kxw8 := hide (Blk.below hbw8 zxw7 Kxw7.out)
  have zxw8 : w5.heap.size < w8.heap.size := Nat.lt_of_lt_of_le zxw7 hbw8.size
  have Qrw8 : Hid (RdReq w8 r h) := Qrw7.out.mono hbw8
  have Qgw8 : Hid (ErrT w8) := Qgw7.out.later hbw8
  have Qww8 : Hid (RdC w8 (some ⟨g0, 0, none⟩) ((cartonsR r).length) ((cartonsR r))) := RdC.mono Qww7.out hbw8
  have Qc5w8 : Hid (RdReq w8 r h5) := Qc5w7.out.mono hbw8
  have Qow8 : Hid (OwnReq w8 w4.heap.size r h5 gp gt gi) := Qow7.out.later hbw8
  have Qpw8 : Hid (Below w4.heap.size w4 w8) := Qpw7.out.trans (hbw8.mono Qpw7.out.size)
  have Quw8 : Hid (OwnC w8 w6.heap.size g1 cap1 xs1) := OwnC.later Quw7.out hbw8
  clear Hw7 Kaw7 zaw7 Kxw7 zxw7 Qrw7 Qgw7 Qww7 Qc5w7 Qow7 Qpw7 Quw7
  clear hbw8
  obtain ⟨aw8_0, aw8_1, aw8_2, aw8_3, aw8_4, aw8_5, aw8_6, aw8_7, aw8_8, aw8_9⟩ := Blk.cs10 Kaw8.out
  obtain ⟨xw8_0, xw8_1, xw8_2, xw8_3, xw8_4, xw8_5, xw8_6, xw8_7, xw8_8, xw8_9⟩ := Blk.cs10 Kxw8.out
  have DX : Hid (Blk w8.drew w5.heap.size [.int .i64 r.way, .int .i64 r.pal.wd, .int .i64 r.pal.dp, .int .i64 r.pal.ht, .int .i64 r.pal.gram, .int .i64 r.classes, .slice h5.ap r.pairs.length h5.cp, .slice h5.at' r.types.length h5.ct, .int .i64 r.master, .slice h5.ai r.items.length h5.ci]) := unhide Kxw8
  have DQ : Hid (RdReq w8.drew r h) := Qrw8.out.mono (Below.refl _ _).drew
  have DC : Hid (RdReq w8.drew r h5) := Qc5w8.out.mono (Below.refl _ _).drew
  have DB : Hid (Below w8.heap.size w8 w8.drew) := (Below.refl _ _).drew
  go_upto_region 10 with fail
  go_cut [31] (fun v wc => v = .bool false ∧ Below w8.heap.size w8 wc)
  case first =>
    go_region_with (first
      | (go_at_call 11; go_must (refine (toRequest_any r h _ (by exact unhide DQ) hsm).mono ?_; rintro e u1 ⟨y1, rfl, hq, hf, hb⟩; have Q1 := hide hq; have B1 := hide hb; have X1 := Blk.below hb (by exact zxw8) DX.out; have y0 : u1.cell? ⟨w5.heap.size, 0, none⟩ = some (.int .i64 r.way) := (X1 0 (by simp)).1; have yy1 : u1.cell? ⟨w5.heap.size, 1, none⟩ = some (.int .i64 r.pal.wd) := (X1 1 (by simp)).1; have y2 : u1.cell? ⟨w5.heap.size, 2, none⟩ = some (.int .i64 r.pal.dp) := (X1 2 (by simp)).1; have y3 : u1.cell? ⟨w5.heap.size, 3, none⟩ = some (.int .i64 r.pal.ht) := (X1 3 (by simp)).1; have y4 : u1.cell? ⟨w5.heap.size, 4, none⟩ = some (.int .i64 r.pal.gram) := (X1 4 (by simp)).1; have y5 : u1.cell? ⟨w5.heap.size, 5, none⟩ = some (.int .i64 r.classes) := (X1 5 (by simp)).1; have y6 : u1.cell? ⟨w5.heap.size, 6, none⟩ = some (.slice h5.ap r.pairs.length h5.cp) := (X1 6 (by simp)).1; have y7 : u1.cell? ⟨w5.heap.size, 7, none⟩ = some (.slice h5.at' r.types.length h5.ct) := (X1 7 (by simp)).1; have y8 : u1.cell? ⟨w5.heap.size, 8, none⟩ = some (.int .i64 r.master) := (X1 8 (by simp)).1; have y9 : u1.cell? ⟨w5.heap.size, 9, none⟩ = some (.slice h5.ai r.items.length h5.ci) := (X1 9 (by simp)).1; clear hq hf hb X1))
      | (go_at_call 14; go_must (refine (eqRequest_same r h5 y1 _ (by exact DC.out.mono B1.out) (by exact unhide Q1) hsm).mono ?_; rintro e u2 ⟨rfl, hb⟩; have B2 := hide hb; clear hb)))
    all_goals
      go_wp2_with fail
      go_meet
      case rel => exact ⟨rfl, (DB.out.trans (B1.out.mono DB.out.size)).trans (B2.out.mono (DB.out.trans (B1.out.mono DB.out.size)).size)⟩
  case rest =>
    obtain ⟨rfl, hb0⟩ := hcut
    clear aw8_0 aw8_1 aw8_2 aw8_3 aw8_4 aw8_5 aw8_6 aw8_7 aw8_8 aw8_9 xw8_0 xw8_1 xw8_2 xw8_3 xw8_4 xw8_5 xw8_6 xw8_7 xw8_8 xw8_9
    clear DX DQ DC DB
    obtain ⟨w9, hw8⟩ : ∃ w8 : World, w8 = wc := ⟨_, rfl⟩
    subst wc
    have Hw9 : Hid (Below w.heap.size w w9) := Hw8.out.trans (hb0.mono Hw8.out.size)
    have Kaw9 := hide (Blk.below hb0 zaw8 Kaw8.out)
    have zaw9 : w.heap.size < w9.heap.size := Nat.lt_of_lt_of_le zaw8 hb0.size
    have Kxw9 := hide (Blk.below hb0 zxw8 Kxw8.out)
    have zxw9 : w5.heap.size < w9.heap.size := Nat.lt_of_lt_of_le zxw8 hb0.size
    have Qrw9 : Hid (RdReq w9 r h) := Qrw8.out.mono hb0
    have Qgw9 : Hid (ErrT w9) := Qgw8.out.later hb0
    have Qww9 : Hid (RdC w9 (some ⟨g0, 0, none⟩) ((cartonsR r).length) ((cartonsR r))) := RdC.mono Qww8.out hb0
    have Qc5w9 : Hid (RdReq w9 r h5) := Qc5w8.out.mono hb0
    have Qow9 : Hid (OwnReq w9 w4.heap.size r h5 gp gt gi) := Qow8.out.later hb0
    have Qpw9 : Hid (Below w4.heap.size w4 w9) := Qpw8.out.trans (hb0.mono Qpw8.out.size)
    have Quw9 : Hid (OwnC w9 w6.heap.size g1 cap1 xs1) := OwnC.later Quw8.out hb0
    clear Hw8 Kaw8 zaw8 Kxw8 zxw8 Qrw8 Qgw8 Qww8 Qc5w8 Qow8 Qpw8 Quw8
    clear hb0
    obtain ⟨aw9_0, aw9_1, aw9_2, aw9_3, aw9_4, aw9_5, aw9_6, aw9_7, aw9_8, aw9_9⟩ := Blk.cs10 Kaw9.out
    obtain ⟨xw9_0, xw9_1, xw9_2, xw9_3, xw9_4, xw9_5, xw9_6, xw9_7, xw9_8, xw9_9⟩ := Blk.cs10 Kxw9.out
    go_wp2_with fail
    refine (markRequest_any _ r h5 gp gt gi 1 _ Qow9.out hsm (by omega)).mono ?_
    rintro e w10 ⟨km, rfl, hkm, ht3⟩
    clear aw9_0 aw9_1 aw9_2 aw9_3 aw9_4 aw9_5 aw9_6 aw9_7 aw9_8 aw9_9 xw9_0 xw9_1 xw9_2 xw9_3 xw9_4 xw9_5 xw9_6 xw9_7 xw9_8 xw9_9
    have hz3 := ht3.size
    have Pw10 : Hid (Below w4.heap.size w4 w10) := ht3.below Qpw9.out (Nat.le_refl _) x1 (by omega) (by omega)
    have ho9 := ht3.ownC Quw9.out (by omega) (by omega) (by omega)
    have hneg : ¬ ((km : Nat) : Int) < 0 := by omega
    clear Hw9 Kaw9 zaw9 Kxw9 zxw9 Qrw9 Qgw9 Qww9 Qc5w9 Qow9 Qpw9 Quw9
    have Hw10 : Hid (Below w.heap.size w w10) := SH.out.trans (Pw10.out.mono SH.out.size)
    have Kaw10 := hide (Blk.below Pw10.out Sz SK.out)
    have zaw10 : w.heap.size < w10.heap.size := Nat.lt_of_lt_of_le Sz Pw10.out.size
    have Qrw10 : Hid (RdReq w10 r h) := hr.mono Hw10.out
    have Qgw10 : Hid (ErrT w10) := hg.later Hw10.out
    have Qww10 : Hid (RdC w10 (some ⟨g0, 0, none⟩) ((cartonsR r).length) ((cartonsR r))) := RdC.mono SW.out Pw10.out
    have Qpw10 : Hid (Below w4.heap.size w4 w10) := unhide Pw10
    have Quw10 : Hid (OwnC w10 w6.heap.size g1 cap1 xs1) := ho9
    clear ho9 ht3 Pw10
    obtain ⟨aw10_0, aw10_1, aw10_2, aw10_3, aw10_4, aw10_5, aw10_6, aw10_7, aw10_8, aw10_9⟩ := Blk.cs10 Kaw10.out
    go_wp2_with fail
    refine (eqCartonS_same _ _ _ _ _ ((cartonsR r)) _ (HRD.out _ Quw10.out) Qww10.out (by omega) hrow6).mono ?_
    rintro e w11 ⟨rfl, hbw11⟩
    clear aw10_0 aw10_1 aw10_2 aw10_3 aw10_4 aw10_5 aw10_6 aw10_7 aw10_8 aw10_9
    have Hw11 : Hid (Below w.heap.size w w11) := Hw10.out.trans (hbw11.mono Hw10.out.size)
    have Kaw11 := hide (Blk.below hbw11 zaw10 Kaw10.out)
    have zaw11 : w.heap.size < w11.heap.size := Nat.lt_of_lt_of_le zaw10 hbw11.size
    have Qrw11 : Hid (RdReq w11 r h) := Qrw10.out.mono hbw11
    have Qgw11 : Hid (ErrT w11) := Qgw10.out.later hbw11
    have Qww11 : Hid (RdC w11 (some ⟨g0, 0, none⟩) ((cartonsR r).length) ((cartonsR r))) := RdC.mono Qww10.out hbw11
    have Qpw11 : Hid (Below w4.heap.size w4 w11) := Qpw10.out.trans (hbw11.mono Qpw10.out.size)
    have Quw11 : Hid (OwnC w11 w6.heap.size g1 cap1 xs1) := OwnC.later Quw10.out hbw11
    clear Hw10 Kaw10 zaw10 Qrw10 Qgw10 Qww10 Qpw10 Quw10
    clear hbw11
    obtain ⟨aw11_0, aw11_1, aw11_2, aw11_3, aw11_4, aw11_5, aw11_6, aw11_7, aw11_8, aw11_9⟩ := Blk.cs10 Kaw11.out
    go_wp2_with fail
    have hmk := markCartonS_any w6.heap.size g1 cap1 1 xs1 w11 Quw11.out (by omega) (by omega) (by omega) (by have := Qpw11.out.size; have := Quw11.out.out.lt g1 rfl; omega)
    rw [unhide HL1] at hmk
    refine hmk.mono ?_
    clear hmk
    rintro e w12 ⟨rfl, hm, hg1⟩
    clear aw11_0 aw11_1 aw11_2 aw11_3 aw11_4 aw11_5 aw11_6 aw11_7 aw11_8 aw11_9
    have hz4 := hg1.size
    have Pw12 : Hid (Below w4.heap.size w4 w12) := Qpw11.out.trans (hg1.mono (by omega))
    clear Hw11 Kaw11 zaw11 Qrw11 Qgw11 Qww11 Qpw11 Quw11
    have Hw12 : Hid (Below w.heap.size w w12) := SH.out.trans (Pw12.out.mono SH.out.size)
    have Kaw12 := hide (Blk.below Pw12.out Sz SK.out)
    have zaw12 : w.heap.size < w12.heap.size := Nat.lt_of_lt_of_le Sz Pw12.out.size
    have Qrw12 : Hid (RdReq w12 r h) := hr.mono Hw12.out
    have Qgw12 : Hid (ErrT w12) := hg.later Hw12.out
    have Qww12 : Hid (RdC w12 (some ⟨g0, 0, none⟩) ((cartonsR r).length) ((cartonsR r))) := RdC.mono SW.out Pw12.out
    have Qmw12 : Hid (OwnC w12 w6.heap.size g1 cap1 (markC 1 xs1)) := hm
    clear hm hg1 Pw12
    generalize hT : 1 + totX xs1 = T
    have HT := hide hT
    have hT0 : ¬ ((T : Nat) : Int) < 0 := by omega
    have hT1 : (((T : Nat) : Int) != ((T : Nat) : Int)) = false := by simp
    clear hT
    obtain ⟨aw12_0, aw12_1, aw12_2, aw12_3, aw12_4, aw12_5, aw12_6, aw12_7, aw12_8, aw12_9⟩ := Blk.cs10 Kaw12.out
    go_wp2_with fail
    have hmk := heldCartonS_any w6.heap.size g1 cap1 1 xs1 w12 Qmw12.out (by omega) (by omega) (by omega)
    rw [unhide HL1, unhide HT] at hmk
    refine hmk.mono ?_
    clear hmk
    rintro e w9 ⟨rfl, hw9⟩
    subst w9
    go_wp2_with fail
    refine (toRequest_any r h _ Qrw12.out hsm).mono ?_
    rintro e w13 ⟨h13, rfl, hq, hf, hbw13⟩
    clear aw12_0 aw12_1 aw12_2 aw12_3 aw12_4 aw12_5 aw12_6 aw12_7 aw12_8 aw12_9
    have Hw13 : Hid (Below w.heap.size w w13) := Hw12.out.trans (hbw13.mono Hw12.out.size)
    have Kaw13 := hide (Blk.below hbw13 zaw12 Kaw12.out)
    have zaw13 : w.heap.size < w13.heap.size := Nat.lt_of_lt_of_le zaw12 hbw13.size
    have Qrw13 : Hid (RdReq w13 r h) := Qrw12.out.mono hbw13
    have Qgw13 : Hid (ErrT w13) := Qgw12.out.later hbw13
    have Qww13 : Hid (RdC w13 (some ⟨g0, 0, none⟩) ((cartonsR r).length) ((cartonsR r))) := RdC.mono Qww12.out hbw13
    have Qmw13 : Hid (OwnC w13 w6.heap.size g1 cap1 (markC 1 xs1)) := OwnC.later Qmw12.out hbw13
    clear Hw12 Kaw12 zaw12 Qrw12 Qgw12 Qww12 Qmw12
    clear hbw13
    have Qc13w13 : Hid (RdReq w13 r h13) := hq
    clear hq hf
    unfold reqVal
    go_wp2_with fail
    refine (cartonsOf_any r h13 _ Qc13w13.out hsm Qgw13.out).mono ?_
    rintro e w14 ⟨g2, cap2, xs2, rfl, ho2, hx2, hbw14⟩
    have Hw14 : Hid (Below w.heap.size w w14) := Hw13.out.trans (hbw14.mono Hw13.out.size)
    have Kaw14 := hide (Blk.below hbw14 zaw13 Kaw13.out)
    have zaw14 : w.heap.size < w14.heap.size := Nat.lt_of_lt_of_le zaw13 hbw14.size
    have Qrw14 : Hid (RdReq w14 r h) := Qrw13.out.mono hbw14
    have Qgw14 : Hid (ErrT w14) := Qgw13.out.later hbw14
    have Qww14 : Hid (RdC w14 (some ⟨g0, 0, none⟩) ((cartonsR r).length) ((cartonsR r))) := RdC.mono Qww13.out hbw14
    have Qmw14 : Hid (OwnC w14 w6.heap.size g1 cap1 (markC 1 xs1)) := OwnC.later Qmw13.out hbw14
    have Qc13w14 : Hid (RdReq w14 r h13) := Qc13w13.out.mono hbw14
    clear Hw13 Kaw13 zaw13 Qrw13 Qgw13 Qww13 Qmw13 Qc13w13
    clear hbw14
    have hl2 : xs2.length = ((cartonsR r)).length := by rw [← hx2, List.length_map]
    have hw2 := ho2.read
    rw [hx2] at hw2
    rw [hl2] at hw2 ⊢
    clear ho2 hx2 hl2
    have Qvw14 : Hid (RdC w14 (some ⟨g2, 0, none⟩) ((cartonsR r).length) ((cartonsR r))) := hw2
    clear hw2
    obtain ⟨aw14_0, aw14_1, aw14_2, aw14_3, aw14_4, aw14_5, aw14_6, aw14_7, aw14_8, aw14_9⟩ := Blk.cs10 Kaw14.out
    go_wp2_with fail
    refine (eqCartonS_same _ _ _ _ _ ((cartonsR r)) _ Qvw14.out Qww14.out (by omega) hrow6).mono ?_
    rintro e w15 ⟨rfl, hbw15⟩
    clear aw14_0 aw14_1 aw14_2 aw14_3 aw14_4 aw14_5 aw14_6 aw14_7 aw14_8 aw14_9
    have Hw15 : Hid (Below w.heap.size w w15) := Hw14.out.trans (hbw15.mono Hw14.out.size)
    have Kaw15 := hide (Blk.below hbw15 zaw14 Kaw14.out)
    have zaw15 : w.heap.size < w15.heap.size := Nat.lt_of_lt_of_le zaw14 hbw15.size
    have Qrw15 : Hid (RdReq w15 r h) := Qrw14.out.mono hbw15
    have Qgw15 : Hid (ErrT w15) := Qgw14.out.later hbw15
    have Qww15 : Hid (RdC w15 (some ⟨g0, 0, none⟩) ((cartonsR r).length) ((cartonsR r))) := RdC.mono Qww14.out hbw15
    have Qmw15 : Hid (OwnC w15 w6.heap.size g1 cap1 (markC 1 xs1)) := OwnC.later Qmw14.out hbw15
    have Qc13w15 : Hid (RdReq w15 r h13) := Qc13w14.out.mono hbw15
    have Qvw15 : Hid (RdC w15 (some ⟨g2, 0, none⟩) ((cartonsR r).length) ((cartonsR r))) := RdC.mono Qvw14.out hbw15
    clear Hw14 Kaw14 zaw14 Qrw14 Qgw14 Qww14 Qmw14 Qc13w14 Qvw14
    clear hbw15
    obtain ⟨aw15_0, aw15_1, aw15_2, aw15_3, aw15_4, aw15_5, aw15_6, aw15_7, aw15_8, aw15_9⟩ := Blk.cs10 Kaw15.out
    go_wp2_with fail
    have hmk := heldCartonS_any w6.heap.size g1 cap1 1 xs1 w15 Qmw15.out (by omega) (by omega) (by omega)
    rw [unhide HL1, unhide HT] at hmk
    refine hmk.mono ?_
    clear hmk
    rintro e w9 ⟨rfl, hw9⟩
    subst w9
    go_wp2_with fail
    go_ret
    exact ⟨rfl, unhide Hw15⟩
end Go.Proofs.YtphdeojiehigpaaGreatDoor
