/- What a carton weighs in all: the program. -/
import Derived.Test.YtcblpoeeembniabGreatDoorPkK
import Derived.Test.YtcblpoeeembniabGreatDoorVolOf
import Derived.Test.YtcblpoeeembniabGreatDoorPkF
import Derived.Test.YtcblpoeeembniabGreatDoorLowPlain
import Derived.Test.YtcblpoeeembniabGreatDoorAppendSome
import Derived.Test.YtcblpoeeembniabGreatDoorPkC
import Derived.Deep.DeepMust
import Derived.Deep.DeepCutAuto
import Derived.Deep.RegionHeld3
namespace Go.Proofs.YtcblpoeeembniabGreatDoor
open Go Go.RowKit
set_option linter.unusedVariables false
set_option linter.unusedSimpArgs false

set_option maxRecDepth 100000 in
set_option maxHeartbeats 4000000 in
theorem gross_any (r : ReqV) (h : ReqH) (t p : Int) (a : Option Addr) (n c : Nat) (us : List Int) (w : World) (hr : RdReq w r h) (hs : r.small) (hg : ErrT w) (hu : Rd w a n us) (hn : n ≤ 1048600) :
 Calls Tryz.prog 34 #[reqVal r h, .agg #[.int .i64 t, .int .i64 p, .slice a n c]] w fun e w' => e = .returned (.int .i64 (grossR r ⟨t, p, us⟩)) ∧ Below w.heap.size w w' := by
 have htl : r.types.length ≤ 1048600 := by unfold ReqV.small at hs; omega
 have HR := hide hr
 have HU := hide hu
 have HGB := hide (gramOf_bd (itemsR r) (itemsR_good r).gram us 1048600 (by rw [hu.1]; exact hn))
 clear hr hu
 have HG := hide hg
 clear hg
 unfold reqVal
 go_enter Tryz.func34, Tryz.ntmps34
 go_wp2_with fail
 generalize hW : ((w.alloc (.cells #[.int .i64 r.way, .int .i64 r.pal.wd, .int .i64 r.pal.dp, .int .i64 r.pal.ht, .int .i64 r.pal.gram, .int .i64 r.classes, .slice h.ap r.pairs.length h.cp, .slice h.at' r.types.length h.ct, .int .i64 r.master, .slice h.ai r.items.length h.ci] 41)).alloc (.cells #[.int .i64 t, .int .i64 p, .slice a n c] 43)) = W at *
 obtain ⟨BW, KaW, ZaW, KxW, ZxW⟩ := en2 hW
 have Ga : w.heap.size ≤ w.heap.size := by omega
 have Gx : w.heap.size ≤ (w.heap.size + 1) := by omega
 have Nqax : w.heap.size ≠ (w.heap.size + 1) := by omega
 have Nqxa : (w.heap.size + 1) ≠ w.heap.size := by omega
 clear hW
 refine (class_any r h _ (HR.out.mono BW.out) hs (HG.out.later BW.out)).mono ?_
 rintro e v1 ⟨rfl, hb⟩
 have Bv1 := hide (BW.out.trans (hb.mono BW.out.size))
 have Kav1 := hide (Blk.below hb ZaW KaW.out)
 have Zav1 := Nat.lt_of_lt_of_le ZaW hb.size
 have Kxv1 := hide (Blk.below hb ZxW KxW.out)
 have Zxv1 := Nat.lt_of_lt_of_le ZxW hb.size
 clear hb
 clear BW KaW ZaW KxW ZxW
 by_cases hz : classI r = 0
 case neg =>
  have hne : (classI r != 0) = true := by simp [hz]
  have HE : Hid (grossR r ⟨t, p, us⟩ = 0) := by simp [Hid, grossR, hz]
  clear hz
  go_wp2
  go_ret
  exact ⟨ret_intF HE.out.symm, unhide Bv1⟩
 have HBD := hide (byId_bd hz t)
 have HGR : Hid (grossR r ⟨t, p, us⟩ = if byIdB r t = true then (byIdV r t).tare + gramOf (itemsR r) us else 0) := by simp [Hid, grossR, hz]
 rw [hz]
 clear hz
 obtain ⟨ca0, ca1, ca2, ca3, ca4, ca5, ca6, ca7, ca8, ca9⟩ := Blk.cs10 Kav1.out
 obtain ⟨cx0, cx1, cx2⟩ := Blk.cs3 Kxv1.out
 go_wp2_with fail
 refine (typeById_any r h t _ (HR.out.mono Bv1.out) htl).mono ?_
 rintro e v2 ⟨rfl, hb⟩
 have Bv2 := hide (Bv1.out.trans (hb.mono Bv1.out.size))
 have Kav2 := hide (Blk.below hb Zav1 Kav1.out)
 have Zav2 := Nat.lt_of_lt_of_le Zav1 hb.size
 have Kxv2 := hide (Blk.below hb Zxv1 Kxv1.out)
 have Zxv2 := Nat.lt_of_lt_of_le Zxv1 hb.size
 clear hb
 clear Bv1 Kav1 Zav1 Kxv1 Zxv1
 clear ca0 ca1 ca2 ca3 ca4 ca5 ca6 ca7 ca8 ca9 cx0 cx1 cx2
 cases hb : byIdB r t
 case false =>
  have HE : Hid (grossR r ⟨t, p, us⟩ = 0) := by rw [Hid, unhide HGR, hb]; rfl
  go_wp2
  go_ret
  exact ⟨ret_intF HE.out.symm, bw_alloc Bv2.out _⟩
 case true =>
  have HE : Hid (grossR r ⟨t, p, us⟩ = (byIdV r t).tare + gramOf (itemsR r) us) := by rw [Hid, unhide HGR, hb]; rfl
  go_upto_region 6 with fail
  generalize hW : (v2.alloc (.cells #[.int .i64 (byIdV r t).id, .int .i64 (byIdV r t).wd, .int .i64 (byIdV r t).ht, .int .i64 (byIdV r t).dp, .int .i64 (byIdV r t).tare, .int .i64 (byIdV r t).gram, .int .i64 (byIdV r t).cost] 54)) = v3 at *
  obtain ⟨hb, Ktv3, Ztv3⟩ := en1 hW
  have hb := unhide hb
  have Bv3 := hide (Bv2.out.trans (hb.mono Bv2.out.size))
  have Gt : w.heap.size ≤ v2.heap.size := Bv2.out.size
  have Kav3 := hide (Blk.below hb Zav2 Kav2.out)
  have Zav3 := Nat.lt_of_lt_of_le Zav2 hb.size
  have Kxv3 := hide (Blk.below hb Zxv2 Kxv2.out)
  have Zxv3 := Nat.lt_of_lt_of_le Zxv2 hb.size
  have Nqat : w.heap.size ≠ v2.heap.size := Nat.ne_of_lt Zav2
  have Nqta := Ne.symm Nqat
  have Nqxt : (w.heap.size + 1) ≠ v2.heap.size := Nat.ne_of_lt Zxv2
  have Nqtx := Ne.symm Nqxt
  clear hb hW
  clear Bv2 Kav2 Zav2 Kxv2 Zxv2
  go_cut [4] (fun v wc => v = .int .i64 ((byIdV r t).tare + gramOf (itemsR r) us) ∧ Below w.heap.size w wc)
  case first =>
   refine wp_region_noPanic ?_
   have Bu0 : Hid (Below w.heap.size w v3.drew) := Bv3.out.drew
   have Kau0 : Hid (Blk v3.drew w.heap.size [.int .i64 r.way, .int .i64 r.pal.wd, .int .i64 r.pal.dp, .int .i64 r.pal.ht, .int .i64 r.pal.gram, .int .i64 r.classes, .slice h.ap r.pairs.length h.cp, .slice h.at' r.types.length h.ct, .int .i64 r.master, .slice h.ai r.items.length h.ci]) := unhide Kav3
   have Zau0 : w.heap.size < v3.drew.heap.size := Zav3
   have Kxu0 : Hid (Blk v3.drew (w.heap.size + 1) [.int .i64 t, .int .i64 p, .slice a n c]) := unhide Kxv3
   have Zxu0 : (w.heap.size + 1) < v3.drew.heap.size := Zxv3
   have Ktu0 : Hid (Blk v3.drew v2.heap.size [.int .i64 (byIdV r t).id, .int .i64 (byIdV r t).wd, .int .i64 (byIdV r t).ht, .int .i64 (byIdV r t).dp, .int .i64 (byIdV r t).tare, .int .i64 (byIdV r t).gram, .int .i64 (byIdV r t).cost]) := unhide Ktv3
   have Ztu0 : v2.heap.size < v3.drew.heap.size := Ztv3
   obtain ⟨S, hSdef⟩ : ∃ S : World → Prop, S = (fun w' => RqC w' w.heap.size r h ∧ w'.cell? ⟨(w.heap.size + 1), 2, none⟩ = some (.slice a n c) ∧ w'.cell? ⟨v2.heap.size, 4, none⟩ = some (.int .i64 (byIdV r t).tare)) := ⟨_, rfl⟩
   have hSmk : ∀ wq, Blk wq w.heap.size [.int .i64 r.way, .int .i64 r.pal.wd, .int .i64 r.pal.dp, .int .i64 r.pal.ht, .int .i64 r.pal.gram, .int .i64 r.classes, .slice h.ap r.pairs.length h.cp, .slice h.at' r.types.length h.ct, .int .i64 r.master, .slice h.ai r.items.length h.ci] → Blk wq (w.heap.size + 1) [.int .i64 t, .int .i64 p, .slice a n c] → Blk wq v2.heap.size [.int .i64 (byIdV r t).id, .int .i64 (byIdV r t).wd, .int .i64 (byIdV r t).ht, .int .i64 (byIdV r t).dp, .int .i64 (byIdV r t).tare, .int .i64 (byIdV r t).gram, .int .i64 (byIdV r t).cost] → S wq := fun wq ka kx kt => by rw [hSdef]; exact ⟨RqC.of ka, (kx 2 (by simp)).1, (kt 4 (by simp)).1⟩
   have hSd : ∀ wq, S wq → (fun w' => RqC w' w.heap.size r h ∧ w'.cell? ⟨(w.heap.size + 1), 2, none⟩ = some (.slice a n c) ∧ w'.cell? ⟨v2.heap.size, 4, none⟩ = some (.int .i64 (byIdV r t).tare)) wq := fun wq h => by rw [hSdef] at h; exact h
   clear hSdef
   have hHeld : S v3.drew := hSmk v3.drew Kau0.out Kxu0.out Ktu0.out
   refine wp_region_to (S := S) (T := []) (by kernel_rfl) hHeld (fun _ => ?_)
   generalize v3.drew = u0 at *
   refine wpTo_ts (i := 0) (v := ?_) rfl (by kernel_rfl) hSd (by rfl) (fun w hSw => ?_) (by assumption) ?_
   rotate_left
   · ((try dsimp only [RqC] at hSw); go_simp <;> with_reducible rfl)
   refine wpTo_ts (i := 1) (v := ?_) rfl (by kernel_rfl) hSd (by rfl) (fun w hSw => ?_) (by assumption) ?_
   rotate_left
   · ((try dsimp only [RqC] at hSw); go_simp <;> with_reducible rfl)
   refine wpTo_ts (i := 2) (v := ?_) rfl (by kernel_rfl) hSd (by rfl) (fun w hSw => ?_) (by assumption) ?_
   rotate_left
   · ((try dsimp only [RqC] at hSw); go_simp <;> with_reducible rfl)
   refine wpTo_ts (i := 3) (v := ?_) rfl (by kernel_rfl) hSd (by rfl) (fun w hSw => ?_) (by assumption) ?_
   rotate_left
   · ((try dsimp only [RqC] at hSw); go_simp <;> with_reducible rfl)
   refine wpTo_ts (i := 4) (v := ?_) rfl (by kernel_rfl) hSd (by rfl) (fun w hSw => ?_) (by assumption) ?_
   rotate_left
   · ((try dsimp only [RqC] at hSw); go_simp <;> with_reducible rfl)
   try simp only [Act.put, zz1, zz2, zz3, zz4, zz5, zz6]
   refine wpTo_inv (fun a0 listed ai wi => ∃ (b5 b6 b7 : Bool), listed = #[true, true, true, true, true, b5, b6, b7] ∧ ai = fillS b7 4 (.int .i64 ((byIdV r t).tare + gramOf (itemsR r) us)) (fillS b6 25 (.int .i64 ((byIdV r t).tare + gramOf (itemsR r) us)) (fillS b5 24 (.int .i64 (gramOf (itemsR r) us)) (a0))) ∧ Hid (Below u0.heap.size u0 wi) ∧ Hid (Tk b6 → Tk b5) ∧ Hid (Tk b7 → Tk b5 ∧ Tk b6)) ⟨false, false, false, rfl, by simp only [fillS_false], (Below.refl _ _), (fun h => by cases h), (fun h => by cases h)⟩ ?hS ?hT ?step ?fin _ (by decide)
   case hS =>
    rintro listed ai wi ⟨b5, b6, b7, rfl, ha, FB, FC6, FC7⟩ hTf
    exact hSmk wi (Blk.below (FB.out) Zau0 Kau0.out) (Blk.below (FB.out) Zxu0 Kxu0.out) (Blk.below (FB.out) Ztu0 Ktu0.out)
   case hT =>
    exact fun _ _ _ _ f hf => by cases hf
   case step =>
    rintro listed ai wi i o ⟨b5, b6, b7, rfl, ha, FB, FC6, FC7⟩ ho hl hall
    have hi : i < 8 := (Array.getElem?_eq_some_iff.1 ho).1
    obtain rfl | rfl | rfl | rfl | rfl | rfl | rfl | rfl : i = 0 ∨ i = 1 ∨ i = 2 ∨ i = 3 ∨ i = 4 ∨ i = 5 ∨ i = 6 ∨ i = 7 := by omega
    · exact absurd hl (by simp)
    · exact absurd hl (by simp)
    · exact absurd hl (by simp)
    · exact absurd hl (by simp)
    · exact absurd hl (by simp)
    · obtain rfl := Option.some.inj ho
      obtain rfl : b5 = false := by simpa using hl
      obtain rfl : b6 = false := Tk_no (fun p => by have h8 := FC6.out p; simp [Tk] at h8)
      obtain rfl : b7 = false := Tk_no (fun p => by have h8 := FC7.out p; simp [Tk] at h8)
      clear ho hl hall hi
      simp only [fillS, pickS_true, pickS_false, Act.put, zz7, zz8, zz9, zz10, zz11, zz1, zz2, zz3, zz4, zz5, zz6] at ha
      subst ha
      refine wpOp_stepS (o := _) rfl (fun K hK => ?_)
      go_simp
      refine (gramOf_any r h _ _ _ us wi (HR.out.mono (Bu0.out.trans (FB.out.mono Bu0.out.size))) hs (HG.out.later (Bu0.out.trans (FB.out.mono Bu0.out.size))) (HU.out.mono (Bu0.out.trans (FB.out.mono Bu0.out.size))) hn).mono ?_
      rintro e wz ⟨rfl, hb⟩
      go_wp2_with fail
      refine hK.out _ _ ?_
      exact ⟨true, false, false, rfl, by simp only [fillS, pickS_true, pickS_false, Act.put, zz7, zz8, zz9, zz10, zz11, zz1, zz2, zz3, zz4, zz5, zz6], ((FB.out.trans (hb.mono FB.out.size))), (fun p6 => (by cases p6)), (fun p7 => (by cases p7))⟩
    · obtain rfl := Option.some.inj ho
      obtain rfl : b6 = false := by simpa using hl
      obtain rfl : b5 = true := by simpa using hall ⟨5, .data⟩ (by simp) rfl
      obtain rfl : b7 = false := Tk_no (fun p => by have h8 := FC7.out p; simp [Tk] at h8)
      clear ho hl hall hi
      simp only [fillS, pickS_true, pickS_false, Act.put, zz7, zz8, zz9, zz10, zz11, zz1, zz2, zz3, zz4, zz5, zz6] at ha
      subst ha
      refine wpOp_stepS (o := _) rfl (fun K hK => ?_)
      go_simp
      rw [wrap_fits (by have := unhide HGB; have := unhide HBD; omega) (by have := unhide HGB; have := unhide HBD; omega)]
      refine hK.out _ _ ?_
      exact ⟨true, true, false, rfl, by simp only [fillS, pickS_true, pickS_false, Act.put, zz7, zz8, zz9, zz10, zz11, zz1, zz2, zz3, zz4, zz5, zz6], (FB.out), (fun p6 => rfl), (fun p7 => (by cases p7))⟩
    · obtain rfl := Option.some.inj ho
      obtain rfl : b7 = false := by simpa using hl
      obtain rfl : b6 = true := by simpa using hall ⟨6, .data⟩ (by simp) rfl
      obtain rfl := FC6.out rfl
      clear ho hl hall hi
      simp only [fillS, pickS_true, pickS_false, Act.put, zz7, zz8, zz9, zz10, zz11, zz1, zz2, zz3, zz4, zz5, zz6] at ha
      subst ha
      refine wpOp_stepS (o := _) rfl (fun K hK => ?_)
      go_simp
      refine hK.out _ _ ?_
      exact ⟨true, true, true, rfl, by simp only [fillS, pickS_true, pickS_false, Act.put, zz7, zz8, zz9, zz10, zz11, zz1, zz2, zz3, zz4, zz5, zz6], (FB.out), (fun p6 => (unhide FC6 p6)), (fun p7 => ⟨rfl, rfl⟩)⟩
   case fin =>
    rintro listed ai wi ⟨b5, b6, b7, rfl, ha, FB, FC6, FC7⟩ hall
    obtain rfl : b5 = true := by
     have h9 := hall 5 _ rfl (by
      intro e he hbd
      simp at he
      rcases he with rfl | rfl <;> simp
      )
     simpa using h9
    obtain rfl : b6 = true := by
     have h9 := hall 6 _ rfl (by
      intro e he hbd
      simp at he
      rcases he with rfl | rfl <;> simp
      )
     simpa using h9
    obtain rfl : b7 = true := by
     have h9 := hall 7 _ rfl (by
      intro e he hbd
      simp at he
      rcases he with rfl | rfl | rfl | rfl | rfl | rfl | rfl | rfl | rfl <;> simp
      )
     simpa using h9
    clear hall
    simp only [fillS, pickS_true, pickS_false, Act.put, zz7, zz8, zz9, zz10, zz11, zz1, zz2, zz3, zz4, zz5, zz6] at ha
    subst ha
    refine NoPanic.normal ?_
    have Bwi := hide (Bu0.out.trans (FB.out.mono Bu0.out.size))
    have Kawi := hide (Blk.below FB.out Zau0 Kau0.out)
    have Zawi := Nat.lt_of_lt_of_le Zau0 FB.out.size
    have Kxwi := hide (Blk.below FB.out Zxu0 Kxu0.out)
    have Zxwi := Nat.lt_of_lt_of_le Zxu0 FB.out.size
    have Ktwi := hide (Blk.below FB.out Ztu0 Ktu0.out)
    have Ztwi := Nat.lt_of_lt_of_le Ztu0 FB.out.size
    clear FB FC6 FC7
    go_wp2_with fail
    go_meet
    case rel => exact ⟨rfl, unhide Bwi⟩
  case rest =>
   obtain ⟨rfl, hb⟩ := hcut
   have HB := hide hb
   clear hb
   go_wp2
   go_ret
   exact ⟨ret_intF HE.out.symm, unhide HB⟩
end Go.Proofs.YtcblpoeeembniabGreatDoor
