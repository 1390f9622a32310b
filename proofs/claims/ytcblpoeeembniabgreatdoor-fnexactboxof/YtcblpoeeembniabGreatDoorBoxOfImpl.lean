/- A carton's box: the program. -/
import Derived.Test.YtcblpoeeembniabGreatDoorBoxOfPlain
import Derived.Test.YtcblpoeeembniabGreatDoorGrossImpl
import Derived.Deep.DeepMust
import Derived.Deep.DeepCutAuto
import Derived.Deep.RegionHeld3
namespace Go.Proofs.YtcblpoeeembniabGreatDoor
open Go Go.RowKit
set_option linter.unusedVariables false
set_option linter.unusedSimpArgs false

set_option maxRecDepth 100000 in
set_option maxHeartbeats 4000000 in
theorem boxOf_any (r : ReqV) (h : ReqH) (t p : Int) (a : Option Addr) (n c : Nat) (us : List Int) (w : World) (hr : RdReq w r h) (hs : r.small) (hg : ErrT w) (hu : Rd w a n us) (hn : n ≤ 1048600) :
 Calls Tryz.prog 10 #[reqVal r h, .agg #[.int .i64 t, .int .i64 p, .slice a n c]] w fun e w' => e = .returned (.agg #[.int .i64 (boxR r ⟨t, p, us⟩).wd, .int .i64 (boxR r ⟨t, p, us⟩).dp, .int .i64 (boxR r ⟨t, p, us⟩).ht, .int .i64 (boxR r ⟨t, p, us⟩).gram]) ∧ Below w.heap.size w w' := by
 have htl : r.types.length ≤ 1048600 := by unfold ReqV.small at hs; omega
 have HR := hide hr
 have HU := hide hu
 clear hr hu
 have HG := hide hg
 clear hg
 unfold reqVal
 go_enter Tryz.func10, Tryz.ntmps10
 go_wp2_with fail
 generalize hW : (((w.alloc (.cells #[.int .i64 r.way, .int .i64 r.pal.wd, .int .i64 r.pal.dp, .int .i64 r.pal.ht, .int .i64 r.pal.gram, .int .i64 r.classes, .slice h.ap r.pairs.length h.cp, .slice h.at' r.types.length h.ct, .int .i64 r.master, .slice h.ai r.items.length h.ci] 41)).alloc (.cells #[.int .i64 t, .int .i64 p, .slice a n c] 43)).alloc (.cells #[.int .i64 0, .int .i64 0, .int .i64 0, .int .i64 0] 34)) = W at *
 obtain ⟨BW, KaW, ZaW, KxW, ZxW, KrW, ZrW⟩ := en3 hW
 have Ga : w.heap.size ≤ w.heap.size := by omega
 have Gx : w.heap.size ≤ (w.heap.size + 1) := by omega
 have Nqax : w.heap.size ≠ (w.heap.size + 1) := by omega
 have Nqxa : (w.heap.size + 1) ≠ w.heap.size := by omega
 have Gr : w.heap.size ≤ (w.heap.size + 1 + 1) := by omega
 have Nqar : w.heap.size ≠ (w.heap.size + 1 + 1) := by omega
 have Nqra : (w.heap.size + 1 + 1) ≠ w.heap.size := by omega
 have Nqxr : (w.heap.size + 1) ≠ (w.heap.size + 1 + 1) := by omega
 have Nqrx : (w.heap.size + 1 + 1) ≠ (w.heap.size + 1) := by omega
 clear hW
 refine (typeById_any r h t _ (HR.out.mono BW.out) htl).mono ?_
 rintro e v1 ⟨rfl, hb⟩
 have Bv1 := hide (BW.out.trans (hb.mono BW.out.size))
 have Kav1 := hide (Blk.below hb ZaW KaW.out)
 have Zav1 := Nat.lt_of_lt_of_le ZaW hb.size
 have Kxv1 := hide (Blk.below hb ZxW KxW.out)
 have Zxv1 := Nat.lt_of_lt_of_le ZxW hb.size
 have Krv1 := hide (Blk.below hb ZrW KrW.out)
 have Zrv1 := Nat.lt_of_lt_of_le ZrW hb.size
 clear hb
 clear BW KaW ZaW KxW ZxW KrW ZrW
 cases hby : byIdB r t
 case false =>
  obtain ⟨ca0, ca1, ca2, ca3, ca4, ca5, ca6, ca7, ca8, ca9⟩ := Blk.cs10 Kav1.out
  go_upto_region 2 with fail
  generalize hW : (v1.alloc (.cells #[.int .i64 (byIdV r t).id, .int .i64 (byIdV r t).wd, .int .i64 (byIdV r t).ht, .int .i64 (byIdV r t).dp, .int .i64 (byIdV r t).tare, .int .i64 (byIdV r t).gram, .int .i64 (byIdV r t).cost] 54)) = v2 at *
  obtain ⟨hb, Ktv2, Ztv2⟩ := en1 hW
  have hb := unhide hb
  have Bv2 := hide (Bv1.out.trans (hb.mono Bv1.out.size))
  have Gt : w.heap.size ≤ v1.heap.size := Bv1.out.size
  have Kav2 := hide (Blk.below hb Zav1 Kav1.out)
  have Zav2 := Nat.lt_of_lt_of_le Zav1 hb.size
  have Kxv2 := hide (Blk.below hb Zxv1 Kxv1.out)
  have Zxv2 := Nat.lt_of_lt_of_le Zxv1 hb.size
  have Krv2 := hide (Blk.below hb Zrv1 Krv1.out)
  have Zrv2 := Nat.lt_of_lt_of_le Zrv1 hb.size
  have Nqat : w.heap.size ≠ v1.heap.size := Nat.ne_of_lt Zav1
  have Nqta := Ne.symm Nqat
  have Nqxt : (w.heap.size + 1) ≠ v1.heap.size := Nat.ne_of_lt Zxv1
  have Nqtx := Ne.symm Nqxt
  have Nqrt : (w.heap.size + 1 + 1) ≠ v1.heap.size := Nat.ne_of_lt Zrv1
  have Nqtr := Ne.symm Nqrt
  clear hb hW
  clear Bv1 Kav1 Zav1 Kxv1 Zxv1 Krv1 Zrv1
  have HE : Hid (boxR r ⟨t, p, us⟩ = ⟨0, 0, 0, 0⟩) := by simp [Hid, boxR, hby]
  obtain ⟨cr0, fr0, cr1, fr1, cr2, fr2, cr3, fr3⟩ := Blk.cf4 Krv2.out
  go_wp2_with fail
  have CC : Blk ((((v2.setCell ⟨w.heap.size + 1 + 1, 0, none⟩ (.int .i64 0)).setCell ⟨w.heap.size + 1 + 1, 1, none⟩ (.int .i64 0)).setCell ⟨w.heap.size + 1 + 1, 2, none⟩ (.int .i64 0)).setCell ⟨w.heap.size + 1 + 1, 3, none⟩ (.int .i64 0)) (w.heap.size + 1 + 1) [.int .i64 0, .int .i64 0, .int .i64 0, .int .i64 0] := (((Krv2.out.set (by simp)).set (by simp)).set (by simp)).set (by simp)
  have q0 := (CC 0 (by simp)).1
  have q1 := (CC 1 (by simp)).1
  have q2 := (CC 2 (by simp)).1
  have q3 := (CC 3 (by simp)).1
  simp only [List.getElem?_cons_zero, List.getElem?_cons_succ] at q0 q1 q2 q3
  refine bodyPost_ret (v := .agg #[.int .i64 0, .int .i64 0, .int .i64 0, .int .i64 0]) (by simp [results, Tryz.results10, go_sem, q0, q1, q2, q3]) rfl ⟨ret_box HE.out.symm, ?_⟩
  exact (((Bv2.out.setCell (by dsimp only; omega) _).setCell (by dsimp only; omega) _).setCell (by dsimp only; omega) _).setCell (by dsimp only; omega) _
 case true =>
  obtain ⟨ca0, ca1, ca2, ca3, ca4, ca5, ca6, ca7, ca8, ca9⟩ := Blk.cs10 Kav1.out
  go_upto_region 2 with fail
  clear ca0 ca1 ca2 ca3 ca4 ca5 ca6 ca7 ca8 ca9
  generalize hW : (v1.alloc (.cells #[.int .i64 (byIdV r t).id, .int .i64 (byIdV r t).wd, .int .i64 (byIdV r t).ht, .int .i64 (byIdV r t).dp, .int .i64 (byIdV r t).tare, .int .i64 (byIdV r t).gram, .int .i64 (byIdV r t).cost] 54)) = v2 at *
  obtain ⟨hb, Ktv2, Ztv2⟩ := en1 hW
  have hb := unhide hb
  have Bv2 := hide (Bv1.out.trans (hb.mono Bv1.out.size))
  have Gt : w.heap.size ≤ v1.heap.size := Bv1.out.size
  have Kav2 := hide (Blk.below hb Zav1 Kav1.out)
  have Zav2 := Nat.lt_of_lt_of_le Zav1 hb.size
  have Kxv2 := hide (Blk.below hb Zxv1 Kxv1.out)
  have Zxv2 := Nat.lt_of_lt_of_le Zxv1 hb.size
  have Krv2 := hide (Blk.below hb Zrv1 Krv1.out)
  have Zrv2 := Nat.lt_of_lt_of_le Zrv1 hb.size
  have Nqat : w.heap.size ≠ v1.heap.size := Nat.ne_of_lt Zav1
  have Nqta := Ne.symm Nqat
  have Nqxt : (w.heap.size + 1) ≠ v1.heap.size := Nat.ne_of_lt Zxv1
  have Nqtx := Ne.symm Nqxt
  have Nqrt : (w.heap.size + 1 + 1) ≠ v1.heap.size := Nat.ne_of_lt Zrv1
  have Nqtr := Ne.symm Nqrt
  clear hb hW
  clear Bv1 Kav1 Zav1 Kxv1 Zxv1 Krv1 Zrv1
  obtain ⟨ca0, ca1, ca2, ca3, ca4, ca5, ca6, ca7, ca8, ca9⟩ := Blk.cs10 Kav2.out
  go_wp2_with fail
  clear ca0 ca1 ca2 ca3 ca4 ca5 ca6 ca7 ca8 ca9
  refine (class_any r h _ (HR.out.mono Bv2.out) hs (HG.out.later Bv2.out)).mono ?_
  rintro e v3 ⟨rfl, hb⟩
  have Bv3 := hide (Bv2.out.trans (hb.mono Bv2.out.size))
  have Kav3 := hide (Blk.below hb Zav2 Kav2.out)
  have Zav3 := Nat.lt_of_lt_of_le Zav2 hb.size
  have Kxv3 := hide (Blk.below hb Zxv2 Kxv2.out)
  have Zxv3 := Nat.lt_of_lt_of_le Zxv2 hb.size
  have Krv3 := hide (Blk.below hb Zrv2 Krv2.out)
  have Zrv3 := Nat.lt_of_lt_of_le Zrv2 hb.size
  have Ktv3 := hide (Blk.below hb Ztv2 Ktv2.out)
  have Ztv3 := Nat.lt_of_lt_of_le Ztv2 hb.size
  clear hb
  clear Bv2 Kav2 Zav2 Kxv2 Zxv2 Krv2 Zrv2 Ktv2 Ztv2
  by_cases hz : classI r = 0
  case neg =>
   have hne : (classI r != 0) = true := by simp [hz]
   have HE : Hid (boxR r ⟨t, p, us⟩ = ⟨0, 0, 0, 0⟩) := by simp [Hid, boxR, hz]
   clear hz
   obtain ⟨cr0, fr0, cr1, fr1, cr2, fr2, cr3, fr3⟩ := Blk.cf4 Krv3.out
   go_wp2_with fail
   have CC : Blk ((((v3.setCell ⟨w.heap.size + 1 + 1, 0, none⟩ (.int .i64 0)).setCell ⟨w.heap.size + 1 + 1, 1, none⟩ (.int .i64 0)).setCell ⟨w.heap.size + 1 + 1, 2, none⟩ (.int .i64 0)).setCell ⟨w.heap.size + 1 + 1, 3, none⟩ (.int .i64 0)) (w.heap.size + 1 + 1) [.int .i64 0, .int .i64 0, .int .i64 0, .int .i64 0] := (((Krv3.out.set (by simp)).set (by simp)).set (by simp)).set (by simp)
   have q0 := (CC 0 (by simp)).1
   have q1 := (CC 1 (by simp)).1
   have q2 := (CC 2 (by simp)).1
   have q3 := (CC 3 (by simp)).1
   simp only [List.getElem?_cons_zero, List.getElem?_cons_succ] at q0 q1 q2 q3
   refine bodyPost_ret (v := .agg #[.int .i64 0, .int .i64 0, .int .i64 0, .int .i64 0]) (by simp [results, Tryz.results10, go_sem, q0, q1, q2, q3]) rfl ⟨ret_box HE.out.symm, ?_⟩
   exact (((Bv3.out.setCell (by dsimp only; omega) _).setCell (by dsimp only; omega) _).setCell (by dsimp only; omega) _).setCell (by dsimp only; omega) _
  have HE : Hid (boxR r ⟨t, p, us⟩ = ⟨(byIdV r t).wd, (byIdV r t).dp, (byIdV r t).ht, grossR r ⟨t, p, us⟩⟩) := by simp [Hid, boxR, hz, hby]
  rw [hz]
  clear hz
  go_upto_region 4 with fail
  refine wp_region_noPanic ?_
  have Bu0 : Hid (Below w.heap.size w v3.drew) := Bv3.out.drew
  have Kau0 : Hid (Blk v3.drew w.heap.size [.int .i64 r.way, .int .i64 r.pal.wd, .int .i64 r.pal.dp, .int .i64 r.pal.ht, .int .i64 r.pal.gram, .int .i64 r.classes, .slice h.ap r.pairs.length h.cp, .slice h.at' r.types.length h.ct, .int .i64 r.master, .slice h.ai r.items.length h.ci]) := unhide Kav3
  have Zau0 : w.heap.size < v3.drew.heap.size := Zav3
  have Kxu0 : Hid (Blk v3.drew (w.heap.size + 1) [.int .i64 t, .int .i64 p, .slice a n c]) := unhide Kxv3
  have Zxu0 : (w.heap.size + 1) < v3.drew.heap.size := Zxv3
  have Kru0 : Hid (Blk v3.drew (w.heap.size + 1 + 1) [.int .i64 0, .int .i64 0, .int .i64 0, .int .i64 0]) := unhide Krv3
  have Zru0 : (w.heap.size + 1 + 1) < v3.drew.heap.size := Zrv3
  have Ktu0 : Hid (Blk v3.drew v1.heap.size [.int .i64 (byIdV r t).id, .int .i64 (byIdV r t).wd, .int .i64 (byIdV r t).ht, .int .i64 (byIdV r t).dp, .int .i64 (byIdV r t).tare, .int .i64 (byIdV r t).gram, .int .i64 (byIdV r t).cost]) := unhide Ktv3
  have Ztu0 : v1.heap.size < v3.drew.heap.size := Ztv3
  obtain ⟨S, hSdef⟩ : ∃ S : World → Prop, S = (fun w' => RqC w' w.heap.size r h ∧ w'.cell? ⟨(w.heap.size + 1), 0, none⟩ = some (.int .i64 t) ∧ w'.cell? ⟨(w.heap.size + 1), 1, none⟩ = some (.int .i64 p) ∧ w'.cell? ⟨(w.heap.size + 1), 2, none⟩ = some (.slice a n c) ∧ w'.cell? ⟨v1.heap.size, 1, none⟩ = some (.int .i64 (byIdV r t).wd) ∧ w'.cell? ⟨v1.heap.size, 2, none⟩ = some (.int .i64 (byIdV r t).ht) ∧ w'.cell? ⟨v1.heap.size, 3, none⟩ = some (.int .i64 (byIdV r t).dp)) := ⟨_, rfl⟩
  have hSmk : ∀ wq, Blk wq w.heap.size [.int .i64 r.way, .int .i64 r.pal.wd, .int .i64 r.pal.dp, .int .i64 r.pal.ht, .int .i64 r.pal.gram, .int .i64 r.classes, .slice h.ap r.pairs.length h.cp, .slice h.at' r.types.length h.ct, .int .i64 r.master, .slice h.ai r.items.length h.ci] → Blk wq (w.heap.size + 1) [.int .i64 t, .int .i64 p, .slice a n c] → Blk wq v1.heap.size [.int .i64 (byIdV r t).id, .int .i64 (byIdV r t).wd, .int .i64 (byIdV r t).ht, .int .i64 (byIdV r t).dp, .int .i64 (byIdV r t).tare, .int .i64 (byIdV r t).gram, .int .i64 (byIdV r t).cost] → S wq := fun wq ka kx kt => by rw [hSdef]; exact ⟨RqC.of ka, (kx 0 (by simp)).1, (kx 1 (by simp)).1, (kx 2 (by simp)).1, (kt 1 (by simp)).1, (kt 2 (by simp)).1, (kt 3 (by simp)).1⟩
  have hSd : ∀ wq, S wq → (fun w' => RqC w' w.heap.size r h ∧ w'.cell? ⟨(w.heap.size + 1), 0, none⟩ = some (.int .i64 t) ∧ w'.cell? ⟨(w.heap.size + 1), 1, none⟩ = some (.int .i64 p) ∧ w'.cell? ⟨(w.heap.size + 1), 2, none⟩ = some (.slice a n c) ∧ w'.cell? ⟨v1.heap.size, 1, none⟩ = some (.int .i64 (byIdV r t).wd) ∧ w'.cell? ⟨v1.heap.size, 2, none⟩ = some (.int .i64 (byIdV r t).ht) ∧ w'.cell? ⟨v1.heap.size, 3, none⟩ = some (.int .i64 (byIdV r t).dp)) wq := fun wq h => by rw [hSdef] at h; exact h
  clear hSdef
  have hHeld : S v3.drew := hSmk v3.drew Kau0.out Kxu0.out Ktu0.out
  refine wp_region_to (S := S) (T := [10]) (by kernel_rfl) hHeld (fun _ => ?_)
  generalize v3.drew = u0 at *
  refine wpTo_ts (i := 0) (v := ?_) rfl (by kernel_rfl) hSd (by rfl) (fun w hSw => ?_) (by assumption) ?_
  rotate_left
  · ((try dsimp only [RqC] at hSw); go_simp <;> with_reducible rfl)
  refine wpTo_ts (i := 1) (v := ?_) rfl (by kernel_rfl) hSd (by rfl) (fun w hSw => ?_) (by assumption) ?_
  rotate_left
  · ((try dsimp only [RqC] at hSw); go_simp <;> with_reducible rfl)
  refine wpTo_ts (i := 2) (v := ?_) rfl (by kernel_rfl) hSd (by rfl) (fun w hSw => ?_) (by assumption) ?_
  rotate_left
  · ((try dsimp only [RqC] at hSw); go_simp <;> with_reducible rfl)
  refine wpTo_ts (i := 3) (v := ?_) rfl (by kernel_rfl) hSd (by rfl) (fun w hSw => ?_) (by assumption) ?_
  rotate_left
  · ((try dsimp only [RqC] at hSw); go_simp <;> with_reducible rfl)
  refine wpTo_ts (i := 4) (v := ?_) rfl (by kernel_rfl) hSd (by rfl) (fun w hSw => ?_) (by assumption) ?_
  rotate_left
  · ((try dsimp only [RqC] at hSw); go_simp <;> with_reducible rfl)
  refine wpTo_ts (i := 5) (v := ?_) rfl (by kernel_rfl) hSd (by rfl) (fun w hSw => ?_) (by assumption) ?_
  rotate_left
  · ((try dsimp only [RqC] at hSw); go_simp <;> with_reducible rfl)
  refine wpTo_ts (i := 6) (v := ?_) rfl (by kernel_rfl) hSd (by rfl) (fun w hSw => ?_) (by assumption) ?_
  rotate_left
  · ((try dsimp only [RqC] at hSw); go_simp <;> with_reducible rfl)
  refine wpTo_ts (i := 7) (v := ?_) rfl (by kernel_rfl) hSd (by rfl) (fun w hSw => ?_) (by assumption) ?_
  rotate_left
  · ((try dsimp only [RqC] at hSw); go_simp <;> with_reducible rfl)
  try simp only [Act.put, zz1, zz2, zz3, zz4, zz5, zz6]
  refine wpTo_inv (fun a0 listed ai wi => ∃ (b8 b9 b10 : Bool), listed = #[true, true, true, true, true, true, true, true, b8, b9, b10] ∧ ai = fillS b9 31 (.agg #[.int .i64 (byIdV r t).wd, .int .i64 (byIdV r t).dp, .int .i64 (byIdV r t).ht, .int .i64 (grossR r ⟨t, p, us⟩)]) (fillS b8 30 (.int .i64 (grossR r ⟨t, p, us⟩)) (a0)) ∧ Hid (Fk b10 → Below u0.heap.size u0 wi) ∧ Hid (Tk b10 → Blk wi (w.heap.size + 1 + 1) [.int .i64 (byIdV r t).wd, .int .i64 (byIdV r t).dp, .int .i64 (byIdV r t).ht, .int .i64 (grossR r ⟨t, p, us⟩)]) ∧ Hid (Tk b10 → Below w.heap.size w wi) ∧ Hid (Tk b9 → Tk b8) ∧ Hid (Tk b10 → Tk b8 ∧ Tk b9)) ⟨false, false, false, rfl, by simp only [fillS_false], (fun _ => Below.refl _ _), (fun h => by cases h), (fun h => by cases h), (fun h => by cases h), (fun h => by cases h)⟩ ?hS ?hT ?step ?fin _ (by decide)
  case hS =>
   rintro listed ai wi ⟨b8, b9, b10, rfl, ha, FB, FP0, FP1, FC9, FC10⟩ hTf
   exact hSmk wi (Blk.below (FB.out (by have h7 := hTf 10 (by simp); simpa [Fk] using h7)) Zau0 Kau0.out) (Blk.below (FB.out (by have h7 := hTf 10 (by simp); simpa [Fk] using h7)) Zxu0 Kxu0.out) (Blk.below (FB.out (by have h7 := hTf 10 (by simp); simpa [Fk] using h7)) Ztu0 Ktu0.out)
  case hT =>
   rintro listed ai wi ⟨b8, b9, b10, rfl, ha, FB, FP0, FP1, FC9, FC10⟩ f hf hlf
   obtain rfl : f = 10 := by simpa using hf
   obtain rfl : b10 = true := by simpa using hlf
   obtain ⟨rfl, rfl⟩ := FC10.out rfl
   decide
  case step =>
   rintro listed ai wi i o ⟨b8, b9, b10, rfl, ha, FB, FP0, FP1, FC9, FC10⟩ ho hl hall
   have hi : i < 11 := (Array.getElem?_eq_some_iff.1 ho).1
   obtain rfl | rfl | rfl | rfl | rfl | rfl | rfl | rfl | rfl | rfl | rfl : i = 0 ∨ i = 1 ∨ i = 2 ∨ i = 3 ∨ i = 4 ∨ i = 5 ∨ i = 6 ∨ i = 7 ∨ i = 8 ∨ i = 9 ∨ i = 10 := by omega
   · exact absurd hl (by simp)
   · exact absurd hl (by simp)
   · exact absurd hl (by simp)
   · exact absurd hl (by simp)
   · exact absurd hl (by simp)
   · exact absurd hl (by simp)
   · exact absurd hl (by simp)
   · exact absurd hl (by simp)
   · obtain rfl := Option.some.inj ho
     obtain rfl : b8 = false := by simpa using hl
     obtain rfl : b9 = false := Tk_no (fun p => by have h8 := FC9.out p; simp [Tk] at h8)
     obtain rfl : b10 = false := Tk_no (fun p => by have h8 := FC10.out p; simp [Tk] at h8)
     clear ho hl hall hi
     simp only [fillS, pickS_true, pickS_false, Act.put, zz7, zz8, zz9, zz10, zz11, zz1, zz2, zz3, zz4, zz5, zz6] at ha
     subst ha
     refine wpOp_stepS (o := _) rfl (fun K hK => ?_)
     go_simp
     refine (gross_any r h t p _ _ _ us wi (HR.out.mono (Bu0.out.trans ((FB.out rfl).mono Bu0.out.size))) hs (HG.out.later (Bu0.out.trans ((FB.out rfl).mono Bu0.out.size))) (HU.out.mono (Bu0.out.trans ((FB.out rfl).mono Bu0.out.size))) hn).mono ?_
     rintro e wz ⟨rfl, hb⟩
     go_wp2_with fail
     refine hK.out _ _ ?_
     exact ⟨true, false, false, rfl, by simp only [fillS, pickS_true, pickS_false, Act.put, zz7, zz8, zz9, zz10, zz11, zz1, zz2, zz3, zz4, zz5, zz6], (fun q10 => ((unhide FB q10).trans (hb.mono (unhide FB q10).size))), (fun p10 => (by cases p10)), (fun p10 => (by cases p10)), (fun p9 => (by cases p9)), (fun p10 => (by cases p10))⟩
   · obtain rfl := Option.some.inj ho
     obtain rfl : b9 = false := by simpa using hl
     obtain rfl : b8 = true := by simpa using hall ⟨8, .data⟩ (by simp) rfl
     obtain rfl : b10 = false := Tk_no (fun p => by have h8 := FC10.out p; simp [Tk] at h8)
     clear ho hl hall hi
     simp only [fillS, pickS_true, pickS_false, Act.put, zz7, zz8, zz9, zz10, zz11, zz1, zz2, zz3, zz4, zz5, zz6] at ha
     subst ha
     refine wpOp_stepS (o := _) rfl (fun K hK => ?_)
     go_simp
     refine hK.out _ _ ?_
     exact ⟨true, true, false, rfl, by simp only [fillS, pickS_true, pickS_false, Act.put, zz7, zz8, zz9, zz10, zz11, zz1, zz2, zz3, zz4, zz5, zz6], (fun q10 => (unhide FB q10)), (fun p10 => (by cases p10)), (fun p10 => (by cases p10)), (fun p9 => rfl), (fun p10 => (by cases p10))⟩
   · obtain rfl := Option.some.inj ho
     obtain rfl : b10 = false := by simpa using hl
     obtain rfl : b9 = true := by simpa using hall ⟨9, .data⟩ (by simp) rfl
     obtain rfl := FC9.out rfl
     clear ho hl hall hi
     simp only [fillS, pickS_true, pickS_false, Act.put, zz7, zz8, zz9, zz10, zz11, zz1, zz2, zz3, zz4, zz5, zz6] at ha
     subst ha
     refine wpOp_stepS (o := _) rfl (fun K hK => ?_)
     go_simp
     have kr := (Blk.below (FB.out rfl) Zru0 Kru0.out)
     have p0 := (kr 0 (by simp)).1
     have q0 := (kr 0 (by simp)).2
     have p1 := (kr 1 (by simp)).1
     have q1 := (kr 1 (by simp)).2
     have p2 := (kr 2 (by simp)).1
     have q2 := (kr 2 (by simp)).2
     have p3 := (kr 3 (by simp)).1
     have q3 := (kr 3 (by simp)).2
     clear kr
     go_simp
     refine hK.out _ _ ?_
     exact ⟨true, true, true, rfl, by simp only [fillS, pickS_true, pickS_false, Act.put, zz7, zz8, zz9, zz10, zz11, zz1, zz2, zz3, zz4, zz5, zz6], (fun q10 => (by cases q10)), (fun p10 => (((((Blk.below (FB.out rfl) Zru0 Kru0.out).set (by simp)).set (by simp)).set (by simp)).set (by simp))), (fun p10 => (((((Bu0.out.trans ((FB.out rfl).mono Bu0.out.size)).setCell (by dsimp only; omega) _).setCell (by dsimp only; omega) _).setCell (by dsimp only; omega) _).setCell (by dsimp only; omega) _)), (fun p9 => (unhide FC9 p9)), (fun p10 => ⟨rfl, rfl⟩)⟩
  case fin =>
   rintro listed ai wi ⟨b8, b9, b10, rfl, ha, FB, FP0, FP1, FC9, FC10⟩ hall
   obtain rfl : b8 = true := by
    have h9 := hall 8 _ rfl (by
     intro e he hbd
     simp at he
     rcases he with rfl | rfl <;> simp
     )
    simpa using h9
   obtain rfl : b9 = true := by
    have h9 := hall 9 _ rfl (by
     intro e he hbd
     simp at he
     rcases he with rfl | rfl | rfl | rfl <;> simp
     )
    simpa using h9
   obtain rfl : b10 = true := by
    have h9 := hall 10 _ rfl (by
     intro e he hbd
     simp at he
     rcases he with rfl | rfl | rfl | rfl | rfl | rfl | rfl | rfl | rfl | rfl | rfl | rfl <;> simp
     )
    simpa using h9
   clear hall
   simp only [fillS, pickS_true, pickS_false, Act.put, zz7, zz8, zz9, zz10, zz11, zz1, zz2, zz3, zz4, zz5, zz6] at ha
   subst ha
   refine NoPanic.normal ?_
   have HP0 := hide (FP0.out rfl)
   have HP1 := hide (FP1.out rfl)
   clear FB FP0 FP1 FC9 FC10
   have CC := unhide HP0
   have q0 := (CC 0 (by simp)).1
   have q1 := (CC 1 (by simp)).1
   have q2 := (CC 2 (by simp)).1
   have q3 := (CC 3 (by simp)).1
   simp only [List.getElem?_cons_zero, List.getElem?_cons_succ] at q0 q1 q2 q3
   clear CC
   go_wp2_with fail
   refine bodyPost_ret (v := .agg #[.int .i64 (byIdV r t).wd, .int .i64 (byIdV r t).dp, .int .i64 (byIdV r t).ht, .int .i64 (grossR r ⟨t, p, us⟩)]) (by simp [results, Tryz.results10, go_sem, q0, q1, q2, q3]) rfl ⟨ret_box HE.out.symm, unhide HP1⟩
end Go.Proofs.YtcblpoeeembniabGreatDoor
