/- An order, some of its units, a type: drawn. -/
import Derived.Test.YtcblpoeeembniabGreatDoorDrawSome
import Derived.Test.YtcblpoeeembniabGreatDoorSpecUnitsOf
import Derived.Test.YtcblpoeeembniabGreatDoorPkK
import Derived.Deep.DeepMust
import Derived.Deep.DeepCutAuto
import Derived.Deep.RegionHeld3
namespace Go.Proofs.YtcblpoeeembniabGreatDoor
open Go Go.RowKit
set_option linter.unusedVariables false
set_option linter.unusedSimpArgs false

theorem Blk.fill10 {w : World} {g : Nat} {a0 a1 a2 a3 a4 a5 a6 a7 a8 a9 b0 b1 b2 b3 b4 b5 b6 b7 b8 b9 : Value} (h : Blk w g [a0, a1, a2, a3, a4, a5, a6, a7, a8, a9]) :
 Blk (writeCells w g 0 [b0, b1, b2, b3, b4, b5, b6, b7, b8, b9]) g [b0, b1, b2, b3, b4, b5, b6, b7, b8, b9] :=
 (((((((((h.set (j := 0) (v := b0) (by simp)).set (j := 1) (v := b1) (by simp)).set (j := 2) (v := b2) (by simp)).set (j := 3) (v := b3) (by simp)).set (j := 4) (v := b4) (by simp)).set (j := 5) (v := b5) (by simp)).set (j := 6) (v := b6) (by simp)).set (j := 7) (v := b7) (by simp)).set (j := 8) (v := b8) (by simp)).set (j := 9) (v := b9) (by simp)
theorem blk_writes {g A : Nat} {cs : List Value} (hne : A ≠ g) : ∀ (vs : List Value) (j : Nat) (w : World), Blk w A cs → Blk (writeCells w g j vs) A cs
 | [], _, _, h => h
 | v :: vs, j, w, h => blk_writes hne vs (j + 1) _ (h.other hne)
theorem rd_writes {a : Option Addr} {n g : Nat} {zs : List Int} (hne : ∀ x, a = some x → x.block ≠ g) : ∀ (vs : List Value) (j : Nat) (w : World), Rd w a n zs → Rd (writeCells w g j vs) a n zs
 | [], _, _, h => h
 | v :: vs, j, w, h => rd_writes hne vs (j + 1) _ (h.grown (gb_set (World.grownBy.refl _ _) _ _) hne)
theorem rd_take {w : World} {a : Option Addr} {n : Nat} {zs : List Int} (h : Rd w a n zs) (m : Nat) (hm : m ≤ n) : Rd w a m (zs.take m) := by
 refine ⟨by rw [List.length_take, h.1]; omega, fun i hi => ?_⟩
 obtain ⟨b, off, ha, hc⟩ := h.2 i (by omega)
 refine ⟨b, off, ha, ?_⟩
 have e : (zs.take m).getD i 0 = zs.getD i 0 := by simp [List.getD_eq_getElem?_getD, hi]
 rw [e]; exact hc
set_option maxRecDepth 100000 in
set_option maxHeartbeats 4000000 in
theorem l7Some_any (a : Option Addr) (n c : Nat) (zs : List Int) (w : World) (hr : RdB w a n zs) (hn : n ≤ 1048576) (hlt : 0 < n → ∀ x, a = some x → x.block < w.heap.size) :
 Calls Tryz.prog 63 #[.slice a n c] w fun e w' => ∃ r h g cap us, e = .returned (.tuple #[reqVal r h, .slice (some ⟨g, 0, none⟩) us.length cap]) ∧ Loose r ∧ RdReq w' r h ∧ From w.heap.size h ∧ w'.ownsRow w.heap.size 3 1 (.slice (some ⟨g, 0, none⟩) us.length cap) us.length (ci us) ∧ us.length ≤ 12 ∧ Below w.heap.size w w' := by
 have HR := hide hr
 have HLT := hide hlt
 clear hr hlt
 obtain ⟨G, hG⟩ : ∃ G, G = w.heap.size := ⟨_, rfl⟩
 have hGw : w.heap.size ≤ G := Nat.le_of_eq hG.symm
 go_enter Tryz.func63, Tryz.ntmps63
 go_wp2_with fail
 have hb0 : Below w.heap.size w (w.alloc (.cells #[.int .i64 0, .int .i64 0, .int .i64 0, .int .i64 0, .int .i64 0, .int .i64 0, .slice none 0 0, .slice none 0 0, .int .i64 0, .slice none 0 0] 41)) := ((Below.refl _ _).alloc (by simp) _)
 have hz0w : (w.alloc (.cells #[.int .i64 0, .int .i64 0, .int .i64 0, .int .i64 0, .int .i64 0, .int .i64 0, .slice none 0 0, .slice none 0 0, .int .i64 0, .slice none 0 0] 41)).heap.size = G + 1 := by rw [hG]; simp
 have hkG : Blk (w.alloc (.cells #[.int .i64 0, .int .i64 0, .int .i64 0, .int .i64 0, .int .i64 0, .int .i64 0, .slice none 0 0, .slice none 0 0, .int .i64 0, .slice none 0 0] 41)) G [.int .i64 0, .int .i64 0, .int .i64 0, .int .i64 0, .int .i64 0, .int .i64 0, .slice none 0 0, .slice none 0 0, .int .i64 0, .slice none 0 0] := by rw [hG]; exact (Blk.allocAt (w := w) [.int .i64 0, .int .i64 0, .int .i64 0, .int .i64 0, .int .i64 0, .int .i64 0, .slice none 0 0, .slice none 0 0, .int .i64 0, .slice none 0 0] (by simp))
 generalize (w.alloc (.cells #[.int .i64 0, .int .i64 0, .int .i64 0, .int .i64 0, .int .i64 0, .int .i64 0, .slice none 0 0, .slice none 0 0, .int .i64 0, .slice none 0 0] 41)) = W0 at *
 rw [← hG]
 clear hG
 refine (l6List_any a n c zs W0 (HR.out.mono hb0) hn (fun h0 x hx => by have := HLT.out h0 x hx; have := hb0.size; omega)).mono ?_
 rintro e w3 ⟨r, h, gl, cl, us, rfl, hl, hrd, hfr, hol, hu5, hb3⟩
 have hf2 : From (G + 1) h := by rw [hz0w] at hfr; exact hfr
 rw [hz0w] at hol
 have HL := hide hl
 have KG3 := hide (Blk.below hb3 (by omega) hkG)
 have B3 := hide (hb0.trans (hb3.mono hb0.size))
 have RD3 := hide hrd
 have OL3 := hide hol
 have hs3 : G + 1 ≤ w3.heap.size := by have := hb3.size; omega
 have HF2 := hide hf2
 clear hl hrd hfr hol hb3 hb0 hf2 hz0w hkG
 simp only [reqVal]
 go_wp2_with fail
 have hb4 : Below w3.heap.size w3 (w3.alloc (.cells #[.int .i64 r.way, .int .i64 r.pal.wd, .int .i64 r.pal.dp, .int .i64 r.pal.ht, .int .i64 r.pal.gram, .int .i64 r.classes, .slice h.ap r.pairs.length h.cp, .slice h.at' r.types.length h.ct, .int .i64 r.master, .slice h.ai r.items.length h.ci] 41)) := (Below.refl _ _).alloc (Nat.le_refl _) _
 have ka4 : Blk (w3.alloc (.cells #[.int .i64 r.way, .int .i64 r.pal.wd, .int .i64 r.pal.dp, .int .i64 r.pal.ht, .int .i64 r.pal.gram, .int .i64 r.classes, .slice h.ap r.pairs.length h.cp, .slice h.at' r.types.length h.ct, .int .i64 r.master, .slice h.ai r.items.length h.ci] 41)) w3.heap.size [.int .i64 r.way, .int .i64 r.pal.wd, .int .i64 r.pal.dp, .int .i64 r.pal.ht, .int .i64 r.pal.gram, .int .i64 r.classes, .slice h.ap r.pairs.length h.cp, .slice h.at' r.types.length h.ct, .int .i64 r.master, .slice h.ai r.items.length h.ci] := Blk.allocAt [.int .i64 r.way, .int .i64 r.pal.wd, .int .i64 r.pal.dp, .int .i64 r.pal.ht, .int .i64 r.pal.gram, .int .i64 r.classes, .slice h.ap r.pairs.length h.cp, .slice h.at' r.types.length h.ct, .int .i64 r.master, .slice h.ai r.items.length h.ci] rfl
 have za4 : w3.heap.size < (w3.alloc (.cells #[.int .i64 r.way, .int .i64 r.pal.wd, .int .i64 r.pal.dp, .int .i64 r.pal.ht, .int .i64 r.pal.gram, .int .i64 r.classes, .slice h.ap r.pairs.length h.cp, .slice h.at' r.types.length h.ct, .int .i64 r.master, .slice h.ai r.items.length h.ci] 41)).heap.size := by simp
 generalize (w3.alloc (.cells #[.int .i64 r.way, .int .i64 r.pal.wd, .int .i64 r.pal.dp, .int .i64 r.pal.ht, .int .i64 r.pal.gram, .int .i64 r.classes, .slice h.ap r.pairs.length h.cp, .slice h.at' r.types.length h.ct, .int .i64 r.master, .slice h.ai r.items.length h.ci] 41)) = w4 at *
 have B4 := hide (B3.out.trans (hb4.mono B3.out.size))
 have KG4 := hide (Blk.below hb4 (by omega) KG3.out)
 have RD4 := hide (RD3.out.mono hb4)
 have OL4 := hide (own_later OL3.out hb4)
 obtain ⟨A, hA⟩ : ∃ A, A = w3.heap.size := ⟨_, rfl⟩
 rw [← hA] at ka4 za4 hs3 ⊢
 have KA4 := hide ka4
 clear hb4 ka4 B3 RD3 OL3 hA KG3
 obtain ⟨k, hkk⟩ : ∃ k, k = w4.heap.size := ⟨_, rfl⟩
 refine (l1New_any a n c zs w4 (HR.out.mono B4.out) hn (fun h0 x hx => by have := HLT.out h0 x hx; have := B4.out.size; omega)).mono ?_
 rintro e w5 ⟨rfl, hc5, hb5⟩
 rw [← hkk] at hc5 ⊢
 have hk4 : w4.heap.size ≤ k := Nat.le_of_eq hkk.symm
 clear hkk
 have CUR5 := hide hc5
 have D5 := hide hb5
 clear hc5 hb5
 go_wp2_with fail
 refine (l1Once_any k a n c zs 4 w5 CUR5.out (by omega) (by omega)).mono ?_
 rintro e w6 ⟨b, rfl, hc6, hg6⟩
 have D6 := hide (D5.out.grown hg6 D5.out.size (fun q hq => by cases hq; omega))
 have CUR6 := hide hc6
 clear hc6 hg6 CUR5 D5
 have KGw6 := hide (Blk.below D6.out (by omega) KG4.out)
 have KAw6 := hide (Blk.below D6.out za4 KA4.out)
 have RDw6 := hide (RD4.out.mono D6.out)
 have OLw6 := hide (own_later OL4.out D6.out)
 have Bw6 := hide (B4.out.trans (D6.out.mono B4.out.size))
 cases b
 case true =>
  obtain ⟨ca0, ca1, ca2, ca3, ca4, ca5, ca6, ca7, ca8, ca9⟩ := Blk.cs10 KAw6.out
  obtain ⟨q0, qf0, q1, qf1, q2, qf2, q3, qf3, q4, qf4, q5, qf5, q6, qf6, q7, qf7, q8, qf8, q9, qf9⟩ := Blk.cf10 KGw6.out
  have HD : Hid (RdReq (writeCells w6 G 0 [.int .i64 r.way, .int .i64 r.pal.wd, .int .i64 r.pal.dp, .int .i64 r.pal.ht, .int .i64 r.pal.gram, .int .i64 r.classes, .slice h.ap r.pairs.length h.cp, .slice h.at' r.types.length h.ct, .int .i64 r.master, .slice h.ai r.items.length h.ci]) r h) := rdq_write (far_lst HF2.out (by omega)) _ _ _ RDw6.out
  have HBf : Hid (Below w.heap.size w (writeCells w6 G 0 [.int .i64 r.way, .int .i64 r.pal.wd, .int .i64 r.pal.dp, .int .i64 r.pal.ht, .int .i64 r.pal.gram, .int .i64 r.classes, .slice h.ap r.pairs.length h.cp, .slice h.at' r.types.length h.ct, .int .i64 r.master, .slice h.ai r.items.length h.ci])) := below_write hGw _ _ _ _ Bw6.out
  have HF : Hid (From w.heap.size h) := ⟨fun x hx => by have := HF2.out.fp x hx; omega, fun x hx => by have := HF2.out.ft x hx; omega, fun x hx => by have := HF2.out.fi x hx; omega⟩
  have HOf : Hid ((writeCells w6 G 0 [.int .i64 r.way, .int .i64 r.pal.wd, .int .i64 r.pal.dp, .int .i64 r.pal.ht, .int .i64 r.pal.gram, .int .i64 r.classes, .slice h.ap r.pairs.length h.cp, .slice h.at' r.types.length h.ct, .int .i64 r.master, .slice h.ai r.items.length h.ci]).ownsRow w.heap.size 3 1 (.slice (some ⟨gl, 0, none⟩) us.length cl) us.length (ci us)) := own_lowD (ownOther_write (by omega) _ _ _ OLw6.out) (by omega)
  have KF : Hid (Blk (writeCells w6 G 0 [.int .i64 r.way, .int .i64 r.pal.wd, .int .i64 r.pal.dp, .int .i64 r.pal.ht, .int .i64 r.pal.gram, .int .i64 r.classes, .slice h.ap r.pairs.length h.cp, .slice h.at' r.types.length h.ct, .int .i64 r.master, .slice h.ai r.items.length h.ci]) G [.int .i64 r.way, .int .i64 r.pal.wd, .int .i64 r.pal.dp, .int .i64 r.pal.ht, .int .i64 r.pal.gram, .int .i64 r.classes, .slice h.ap r.pairs.length h.cp, .slice h.at' r.types.length h.ct, .int .i64 r.master, .slice h.ai r.items.length h.ci]) := Blk.fill10 KGw6.out
  clear KGw6 KAw6 RDw6 OLw6 Bw6 D6 CUR6
  go_wp2_with fail
  have EW : ((((((((((w6.setCell ⟨G, 0, none⟩ (.int .i64 r.way)).setCell ⟨G, 1, none⟩ (.int .i64 r.pal.wd)).setCell ⟨G, 2, none⟩ (.int .i64 r.pal.dp)).setCell ⟨G, 3, none⟩ (.int .i64 r.pal.ht)).setCell ⟨G, 4, none⟩ (.int .i64 r.pal.gram)).setCell ⟨G, 5, none⟩ (.int .i64 r.classes)).setCell ⟨G, 6, none⟩ (.slice h.ap r.pairs.length h.cp)).setCell ⟨G, 7, none⟩ (.slice h.at' r.types.length h.ct)).setCell ⟨G, 8, none⟩ (.int .i64 r.master)).setCell ⟨G, 9, none⟩ (.slice h.ai r.items.length h.ci)) = writeCells w6 G 0 [.int .i64 r.way, .int .i64 r.pal.wd, .int .i64 r.pal.dp, .int .i64 r.pal.ht, .int .i64 r.pal.gram, .int .i64 r.classes, .slice h.ap r.pairs.length h.cp, .slice h.at' r.types.length h.ct, .int .i64 r.master, .slice h.ai r.items.length h.ci] := rfl
  rw [EW]
  have e0 := (KF.out 0 (by simp)).1
  have e1 := (KF.out 1 (by simp)).1
  have e2 := (KF.out 2 (by simp)).1
  have e3 := (KF.out 3 (by simp)).1
  have e4 := (KF.out 4 (by simp)).1
  have e5 := (KF.out 5 (by simp)).1
  have e6 := (KF.out 6 (by simp)).1
  have e7 := (KF.out 7 (by simp)).1
  have e8 := (KF.out 8 (by simp)).1
  have e9 := (KF.out 9 (by simp)).1
  simp only [List.getElem?_cons_zero, List.getElem?_cons_succ] at e0 e1 e2 e3 e4 e5 e6 e7 e8 e9
  refine bodyPost_ret (v := .tuple #[reqVal r h, .slice (some ⟨gl, 0, none⟩) us.length cl]) (by simp [results, Tryz.results63, go_sem, reqVal, e0, e1, e2, e3, e4, e5, e6, e7, e8, e9]) rfl ?_
  exact ⟨r, h, gl, cl, _, rfl, unhide HL, unhide HD, unhide HF, unhide HOf, by omega, unhide HBf⟩
 case false =>
  go_upto_region 5 with fail
  have hsm := HL.out.small
  have Nqga : G ≠ A := by omega
  have Nqag : A ≠ G := by omega
  have ZAw6 : A < w6.heap.size := Nat.lt_of_lt_of_le za4 D6.out.size
  have ZGw6 : G < w6.heap.size := by omega
  have GG : w.heap.size ≤ G := hGw
  have GA : w.heap.size ≤ A := by omega
  have QDw6 := D6
  have QCw6 := CUR6
  clear D6 CUR6 RDw6 OLw6
  refine wp_region_noPanic ?_
  have Bu0 : Hid (Below w.heap.size w w6.drew) := Bw6.out.drew
  have QDu0 : Hid (Below w4.heap.size w4 w6.drew) := QDw6.out.trans ((Below.refl _ _).drew.mono QDw6.out.size)
  have QCu0 : Hid (Cur w6.drew k a n c zs) := QCw6.out.mono (Below.refl _ _).drew
  have KAu0 : Hid (Blk w6.drew A [.int .i64 r.way, .int .i64 r.pal.wd, .int .i64 r.pal.dp, .int .i64 r.pal.ht, .int .i64 r.pal.gram, .int .i64 r.classes, .slice h.ap r.pairs.length h.cp, .slice h.at' r.types.length h.ct, .int .i64 r.master, .slice h.ai r.items.length h.ci]) := unhide KAw6
  have ZAu0 : A < w6.drew.heap.size := ZAw6
  have KGu0 : Hid (Blk w6.drew G [.int .i64 0, .int .i64 0, .int .i64 0, .int .i64 0, .int .i64 0, .int .i64 0, .slice none 0 0, .slice none 0 0, .int .i64 0, .slice none 0 0]) := unhide KGw6
  have ZGu0 : G < w6.drew.heap.size := ZGw6
  obtain ⟨S, hSdef⟩ : ∃ S : World → Prop, S = (fun w' => RqC w' A r h) := ⟨_, rfl⟩
  have hSmk : ∀ wq, Blk wq A [.int .i64 r.way, .int .i64 r.pal.wd, .int .i64 r.pal.dp, .int .i64 r.pal.ht, .int .i64 r.pal.gram, .int .i64 r.classes, .slice h.ap r.pairs.length h.cp, .slice h.at' r.types.length h.ct, .int .i64 r.master, .slice h.ai r.items.length h.ci] → S wq := fun wq kA => by rw [hSdef]; exact RqC.of kA
  have hSd : ∀ wq, S wq → (fun w' => RqC w' A r h) wq := fun wq h => by rw [hSdef] at h; exact h
  clear hSdef
  have hHeld : S w6.drew := hSmk w6.drew KAu0.out
  refine wp_region_to (S := S) (T := []) (by kernel_rfl) hHeld (fun _ => ?_)
  generalize w6.drew = u0 at *
  refine wpTo_ts (i := 0) (v := ?_) rfl (by kernel_rfl) hSd (by rfl) (fun w hSw => ?_) (by assumption) ?_
  rotate_left
  · ((try dsimp only [RqC] at hSw); go_simp <;> with_reducible rfl)
  refine wpTo_ts (i := 1) (v := ?_) rfl (by kernel_rfl) hSd (by rfl) (fun w hSw => ?_) (by assumption) ?_
  rotate_left
  · ((try dsimp only [RqC] at hSw); go_simp <;> with_reducible rfl)
  refine wpTo_ts (i := 2) (v := ?_) rfl (by kernel_rfl) hSd (by rfl) (fun w hSw => ?_) (by assumption) ?_
  rotate_left
  · ((try dsimp only [RqC] at hSw); go_simp <;> with_reducible rfl)
  try simp only [Act.put, zz1, zz2, zz3, zz4, zz5, zz6]
  refine wpTo_ready (rs := [3]) (by kernel_rfl) (by simp) ?_
  refine AllTo.cons (o := _) rfl (fun K hK => ?_) ?_
  ·
   (try simp only [zz1, zz2, zz3])
   go_simp
   refine (l1Below_any k a n c zs 2 u0 QCu0.out (by omega) (by omega)).mono ?_
   rintro e u1 ⟨x, rfl, hx0, hx2, hcc, hg⟩
   have Bu1 := hide (Bu0.out.grown hg Bu0.out.size (fun q hq => by cases hq; omega))
   have QDu1 := hide (QDu0.out.grown hg QDu0.out.size (fun q hq => by cases hq; omega))
   have KAu1 := hide (Blk.gb KAu0.out hg ZAu0 (by omega))
   have ZAu1 := Nat.lt_of_lt_of_le ZAu0 hg.size
   have KGu1 := hide (Blk.gb KGu0.out hg ZGu0 (by omega))
   have ZGu1 := Nat.lt_of_lt_of_le ZGu0 hg.size
   clear hg hcc
   clear Bu0 KAu0 ZAu0 KGu0 ZGu0 QDu0 QCu0
   clear hHeld
   go_wp2_with fail
   have hHeld := hSmk u1 KAu1.out
   refine hK.out _ _ (fun _ => hHeld) ?_
   clear hK K
   try simp only [Act.put, zz1, zz2, zz3, zz4, zz5, zz6]
   refine wpTo_ready (rs := [4]) (by kernel_rfl) (by simp) ?_
   refine AllTo.cons (o := _) rfl (fun K hK => ?_) ?_
   ·
    (try simp only [zz1, zz2, zz3])
    go_simp
    refine (specUnitsOf_any r h x u1 (RD4.out.mono QDu1.out) hsm).mono ?_
    rintro e u2 ⟨gq, cq, rfl, hoq, hb⟩
    have Bu2 := hide (Bu1.out.trans (hb.mono Bu1.out.size))
    have KAu2 := hide (Blk.below hb ZAu1 KAu1.out)
    have ZAu2 := Nat.lt_of_lt_of_le ZAu1 hb.size
    have KGu2 := hide (Blk.below hb ZGu1 KGu1.out)
    have ZGu2 := Nat.lt_of_lt_of_le ZGu1 hb.size
    have QDu2 : Hid (Below w4.heap.size w4 u2) := QDu1.out.trans (hb.mono QDu1.out.size)
    have HU9 : Hid (u2.ownsRow (G + 1) 3 1 (.slice (some ⟨gq, 0, none⟩) (unitsOfR r x).length cq) (unitsOfR r x).length (ci (unitsOfR r x))) := own_lowD hoq (by omega)
    clear hoq
    clear hb
    clear Bu1 KAu1 ZAu1 KGu1 ZGu1 QDu1
    clear hHeld
    go_wp2_with fail
    have hHeld := hSmk u2 KAu2.out
    refine hK.out _ _ (fun _ => hHeld) ?_
    clear hK K
    try simp only [Act.put, zz1, zz2, zz3, zz4, zz5, zz6]
    refine wpTo_ready (rs := [5]) (by kernel_rfl) (by simp) ?_
    refine AllTo.cons (o := _) rfl (fun K hK => ?_) ?_
    ·
     (try simp only [zz1, zz2, zz3])
     have RDu2 := hide (RD4.out.mono QDu2.out)
     obtain ⟨q0, qf0, q1, qf1, q2, qf2, q3, qf3, q4, qf4, q5, qf5, q6, qf6, q7, qf7, q8, qf8, q9, qf9⟩ := Blk.cf10 KGu2.out
     go_simp
     clear q0 qf0 q1 qf1 q2 qf2 q3 qf3 q4 qf4 q5 qf5 q6 qf6 q7 qf7 q8 qf8 q9 qf9
     have HD : Hid (RdReq (writeCells u2 G 0 [.int .i64 r.way, .int .i64 r.pal.wd, .int .i64 r.pal.dp, .int .i64 r.pal.ht, .int .i64 r.pal.gram, .int .i64 r.classes, .slice h.ap r.pairs.length h.cp, .slice h.at' r.types.length h.ct, .int .i64 r.master, .slice h.ai r.items.length h.ci]) r h) := rdq_write (far_lst HF2.out (by omega)) _ _ _ RDu2.out
     have HBf : Hid (Below w.heap.size w (writeCells u2 G 0 [.int .i64 r.way, .int .i64 r.pal.wd, .int .i64 r.pal.dp, .int .i64 r.pal.ht, .int .i64 r.pal.gram, .int .i64 r.classes, .slice h.ap r.pairs.length h.cp, .slice h.at' r.types.length h.ct, .int .i64 r.master, .slice h.ai r.items.length h.ci])) := below_write hGw _ _ _ _ Bu2.out
     have HF : Hid (From w.heap.size h) := ⟨fun x hx => by have := HF2.out.fp x hx; omega, fun x hx => by have := HF2.out.ft x hx; omega, fun x hx => by have := HF2.out.fi x hx; omega⟩
     have HOf : Hid ((writeCells u2 G 0 [.int .i64 r.way, .int .i64 r.pal.wd, .int .i64 r.pal.dp, .int .i64 r.pal.ht, .int .i64 r.pal.gram, .int .i64 r.classes, .slice h.ap r.pairs.length h.cp, .slice h.at' r.types.length h.ct, .int .i64 r.master, .slice h.ai r.items.length h.ci]).ownsRow w.heap.size 3 1 (.slice (some ⟨gq, 0, none⟩) (unitsOfR r x).length cq) (unitsOfR r x).length (ci (unitsOfR r x))) := own_lowD (ownOther_write (by omega) _ _ _ HU9.out) (by omega)
     have KF : Hid (Blk (writeCells u2 G 0 [.int .i64 r.way, .int .i64 r.pal.wd, .int .i64 r.pal.dp, .int .i64 r.pal.ht, .int .i64 r.pal.gram, .int .i64 r.classes, .slice h.ap r.pairs.length h.cp, .slice h.at' r.types.length h.ct, .int .i64 r.master, .slice h.ai r.items.length h.ci]) G [.int .i64 r.way, .int .i64 r.pal.wd, .int .i64 r.pal.dp, .int .i64 r.pal.ht, .int .i64 r.pal.gram, .int .i64 r.classes, .slice h.ap r.pairs.length h.cp, .slice h.at' r.types.length h.ct, .int .i64 r.master, .slice h.ai r.items.length h.ci]) := Blk.fill10 KGu2.out
     have KAu3 : Hid (Blk (writeCells u2 G 0 [.int .i64 r.way, .int .i64 r.pal.wd, .int .i64 r.pal.dp, .int .i64 r.pal.ht, .int .i64 r.pal.gram, .int .i64 r.classes, .slice h.ap r.pairs.length h.cp, .slice h.at' r.types.length h.ct, .int .i64 r.master, .slice h.ai r.items.length h.ci]) A [.int .i64 r.way, .int .i64 r.pal.wd, .int .i64 r.pal.dp, .int .i64 r.pal.ht, .int .i64 r.pal.gram, .int .i64 r.classes, .slice h.ap r.pairs.length h.cp, .slice h.at' r.types.length h.ct, .int .i64 r.master, .slice h.ai r.items.length h.ci]) := blk_writes Nqag _ _ _ KAu2.out
     clear Bu2 KAu2 ZAu2 KGu2 ZGu2 QDu2
     clear hHeld HU9 RDu2
     have EW : ((((((((((u2.setCell ⟨G, 0, none⟩ (.int .i64 r.way)).setCell ⟨G, 1, none⟩ (.int .i64 r.pal.wd)).setCell ⟨G, 2, none⟩ (.int .i64 r.pal.dp)).setCell ⟨G, 3, none⟩ (.int .i64 r.pal.ht)).setCell ⟨G, 4, none⟩ (.int .i64 r.pal.gram)).setCell ⟨G, 5, none⟩ (.int .i64 r.classes)).setCell ⟨G, 6, none⟩ (.slice h.ap r.pairs.length h.cp)).setCell ⟨G, 7, none⟩ (.slice h.at' r.types.length h.ct)).setCell ⟨G, 8, none⟩ (.int .i64 r.master)).setCell ⟨G, 9, none⟩ (.slice h.ai r.items.length h.ci)) = writeCells u2 G 0 [.int .i64 r.way, .int .i64 r.pal.wd, .int .i64 r.pal.dp, .int .i64 r.pal.ht, .int .i64 r.pal.gram, .int .i64 r.classes, .slice h.ap r.pairs.length h.cp, .slice h.at' r.types.length h.ct, .int .i64 r.master, .slice h.ai r.items.length h.ci] := rfl
     rw [EW]
     clear EW
     generalize writeCells u2 G 0 [.int .i64 r.way, .int .i64 r.pal.wd, .int .i64 r.pal.dp, .int .i64 r.pal.ht, .int .i64 r.pal.gram, .int .i64 r.classes, .slice h.ap r.pairs.length h.cp, .slice h.at' r.types.length h.ct, .int .i64 r.master, .slice h.ai r.items.length h.ci] = u3 at *
     have hHeld := hSmk u3 KAu3.out
     refine hK.out _ _ (fun _ => hHeld) ?_
     clear hK K
     try simp only [Act.put, zz1, zz2, zz3, zz4, zz5, zz6]
     refine wpTo_ts (i := 6) (v := ?_) rfl (by kernel_rfl) hSd (by rfl) (fun w hSw => ?_) (by assumption) ?_
     rotate_left
     · ((try dsimp only [RqC] at hSw); go_simp <;> with_reducible rfl)
     try simp only [Act.put, zz1, zz2, zz3, zz4, zz5, zz6]
     refine wpTo_done (by kernel_rfl) ?_ _
     refine NoPanic.normal ?_
     go_wp2_with fail
     have e0 := (KF.out 0 (by simp)).1
     have e1 := (KF.out 1 (by simp)).1
     have e2 := (KF.out 2 (by simp)).1
     have e3 := (KF.out 3 (by simp)).1
     have e4 := (KF.out 4 (by simp)).1
     have e5 := (KF.out 5 (by simp)).1
     have e6 := (KF.out 6 (by simp)).1
     have e7 := (KF.out 7 (by simp)).1
     have e8 := (KF.out 8 (by simp)).1
     have e9 := (KF.out 9 (by simp)).1
     simp only [List.getElem?_cons_zero, List.getElem?_cons_succ] at e0 e1 e2 e3 e4 e5 e6 e7 e8 e9
     refine bodyPost_ret (v := .tuple #[reqVal r h, .slice (some ⟨gq, 0, none⟩) (unitsOfR r x).length cq]) (by simp [results, Tryz.results63, go_sem, reqVal, e0, e1, e2, e3, e4, e5, e6, e7, e8, e9]) rfl ?_
     exact ⟨r, h, gq, cq, _, rfl, unhide HL, unhide HD, unhide HF, unhide HOf, unitsOfR_len r x, unhide HBf⟩
    exact AllTo.nil
   exact AllTo.nil
  exact AllTo.nil
set_option maxRecDepth 100000 in
set_option maxHeartbeats 4000000 in
theorem drawHolds_any (a : Option Addr) (n c : Nat) (zs : List Int) (w : World) (hr : RdB w a n zs) (hn : n ≤ 1048576) (hlt : 0 < n → ∀ x, a = some x → x.block < w.heap.size) :
 Calls Tryz.prog 40 #[.slice a n c] w fun e w' => ∃ (r : ReqV) (h : ReqH) (g cap : Nat) (us : List Int) (t : TypeV), e = .returned (.tuple #[reqVal r h, .slice (some ⟨g, 0, none⟩) us.length cap, .agg #[.int .i64 t.id, .int .i64 t.wd, .int .i64 t.ht, .int .i64 t.dp, .int .i64 t.tare, .int .i64 t.gram, .int .i64 t.cost]]) ∧ Loose r ∧ RdReq w' r h ∧ From w.heap.size h ∧ Rd w' (some ⟨g, 0, none⟩) us.length us ∧ us.length ≤ 12 ∧ Below w.heap.size w w' ∧ w.heap.size ≤ g := by
 have HR := hide hr
 have HLT := hide hlt
 clear hr hlt
 obtain ⟨G, hG⟩ : ∃ G, G = w.heap.size := ⟨_, rfl⟩
 have hGw : w.heap.size ≤ G := Nat.le_of_eq hG.symm
 go_enter Tryz.func40, Tryz.ntmps40
 go_wp2_with fail
 have hb0 : Below w.heap.size w ((w.alloc (.cells #[.int .i64 0, .int .i64 0, .int .i64 0, .int .i64 0, .int .i64 0, .int .i64 0, .slice none 0 0, .slice none 0 0, .int .i64 0, .slice none 0 0] 41)).alloc (.cells #[.int .i64 0, .int .i64 0, .int .i64 0, .int .i64 0, .int .i64 0, .int .i64 0, .int .i64 0] 54)) := (((Below.refl _ _).alloc (by simp) _).alloc (by simp) _)
 have hz0w : ((w.alloc (.cells #[.int .i64 0, .int .i64 0, .int .i64 0, .int .i64 0, .int .i64 0, .int .i64 0, .slice none 0 0, .slice none 0 0, .int .i64 0, .slice none 0 0] 41)).alloc (.cells #[.int .i64 0, .int .i64 0, .int .i64 0, .int .i64 0, .int .i64 0, .int .i64 0, .int .i64 0] 54)).heap.size = G + 2 := by rw [hG]; simp
 have hkG : Blk ((w.alloc (.cells #[.int .i64 0, .int .i64 0, .int .i64 0, .int .i64 0, .int .i64 0, .int .i64 0, .slice none 0 0, .slice none 0 0, .int .i64 0, .slice none 0 0] 41)).alloc (.cells #[.int .i64 0, .int .i64 0, .int .i64 0, .int .i64 0, .int .i64 0, .int .i64 0, .int .i64 0] 54)) G [.int .i64 0, .int .i64 0, .int .i64 0, .int .i64 0, .int .i64 0, .int .i64 0, .slice none 0 0, .slice none 0 0, .int .i64 0, .slice none 0 0] := by rw [hG]; exact ((Blk.allocAt (w := w) [.int .i64 0, .int .i64 0, .int .i64 0, .int .i64 0, .int .i64 0, .int .i64 0, .slice none 0 0, .slice none 0 0, .int .i64 0, .slice none 0 0] (by simp)).allocOld (by simp) _)
 have hkH : Blk ((w.alloc (.cells #[.int .i64 0, .int .i64 0, .int .i64 0, .int .i64 0, .int .i64 0, .int .i64 0, .slice none 0 0, .slice none 0 0, .int .i64 0, .slice none 0 0] 41)).alloc (.cells #[.int .i64 0, .int .i64 0, .int .i64 0, .int .i64 0, .int .i64 0, .int .i64 0, .int .i64 0] 54)) (G + 1) [.int .i64 0, .int .i64 0, .int .i64 0, .int .i64 0, .int .i64 0, .int .i64 0, .int .i64 0] := by rw [hG]; exact (Blk.allocAt (w := (w.alloc (.cells #[.int .i64 0, .int .i64 0, .int .i64 0, .int .i64 0, .int .i64 0, .int .i64 0, .slice none 0 0, .slice none 0 0, .int .i64 0, .slice none 0 0] 41))) [.int .i64 0, .int .i64 0, .int .i64 0, .int .i64 0, .int .i64 0, .int .i64 0, .int .i64 0] (by simp))
 generalize ((w.alloc (.cells #[.int .i64 0, .int .i64 0, .int .i64 0, .int .i64 0, .int .i64 0, .int .i64 0, .slice none 0 0, .slice none 0 0, .int .i64 0, .slice none 0 0] 41)).alloc (.cells #[.int .i64 0, .int .i64 0, .int .i64 0, .int .i64 0, .int .i64 0, .int .i64 0, .int .i64 0] 54)) = W0 at *
 rw [← hG]
 clear hG
 refine (l7Some_any a n c zs W0 (HR.out.mono hb0) hn (fun h0 x hx => by have := HLT.out h0 x hx; have := hb0.size; omega)).mono ?_
 rintro e w3 ⟨r, ⟨ap, ta, ai, cp, ct, ci⟩, gl, cl, us, rfl, hl, hrd, hfr, hol, hu5, hb3⟩
 have hf2 : From (G + 2) ⟨ap, ta, ai, cp, ct, ci⟩ := by rw [hz0w] at hfr; exact hfr
 rw [hz0w] at hol
 have HL := hide hl
 have KG3 := hide (Blk.below hb3 (by omega) hkG)
 have KH3 := hide (Blk.below hb3 (by omega) hkH)
 have B3 := hide (hb0.trans (hb3.mono hb0.size))
 have RD3 := hide hrd
 have OL3 := hide hol
 have hs3 : G + 2 ≤ w3.heap.size := by have := hb3.size; omega
 have HF2 := hide hf2
 clear hl hrd hfr hol hb3 hb0 hf2 hz0w hkG hkH
 simp only [reqVal]
 go_wp2_with fail
 have hb4 : Below w3.heap.size w3 (w3.alloc (.cells #[.int .i64 r.way, .int .i64 r.pal.wd, .int .i64 r.pal.dp, .int .i64 r.pal.ht, .int .i64 r.pal.gram, .int .i64 r.classes, .slice ap r.pairs.length cp, .slice ta r.types.length ct, .int .i64 r.master, .slice ai r.items.length ci] 41)) := (Below.refl _ _).alloc (Nat.le_refl _) _
 have ka4 : Blk (w3.alloc (.cells #[.int .i64 r.way, .int .i64 r.pal.wd, .int .i64 r.pal.dp, .int .i64 r.pal.ht, .int .i64 r.pal.gram, .int .i64 r.classes, .slice ap r.pairs.length cp, .slice ta r.types.length ct, .int .i64 r.master, .slice ai r.items.length ci] 41)) w3.heap.size [.int .i64 r.way, .int .i64 r.pal.wd, .int .i64 r.pal.dp, .int .i64 r.pal.ht, .int .i64 r.pal.gram, .int .i64 r.classes, .slice ap r.pairs.length cp, .slice ta r.types.length ct, .int .i64 r.master, .slice ai r.items.length ci] := Blk.allocAt [.int .i64 r.way, .int .i64 r.pal.wd, .int .i64 r.pal.dp, .int .i64 r.pal.ht, .int .i64 r.pal.gram, .int .i64 r.classes, .slice ap r.pairs.length cp, .slice ta r.types.length ct, .int .i64 r.master, .slice ai r.items.length ci] rfl
 have za4 : w3.heap.size < (w3.alloc (.cells #[.int .i64 r.way, .int .i64 r.pal.wd, .int .i64 r.pal.dp, .int .i64 r.pal.ht, .int .i64 r.pal.gram, .int .i64 r.classes, .slice ap r.pairs.length cp, .slice ta r.types.length ct, .int .i64 r.master, .slice ai r.items.length ci] 41)).heap.size := by simp
 generalize (w3.alloc (.cells #[.int .i64 r.way, .int .i64 r.pal.wd, .int .i64 r.pal.dp, .int .i64 r.pal.ht, .int .i64 r.pal.gram, .int .i64 r.classes, .slice ap r.pairs.length cp, .slice ta r.types.length ct, .int .i64 r.master, .slice ai r.items.length ci] 41)) = w4 at *
 have B4 := hide (B3.out.trans (hb4.mono B3.out.size))
 have KG4 := hide (Blk.below hb4 (by omega) KG3.out)
 have KH4 := hide (Blk.below hb4 (by omega) KH3.out)
 have RD4 := hide (RD3.out.mono hb4)
 have OL4 := hide (own_later OL3.out hb4)
 obtain ⟨A, hA⟩ : ∃ A, A = w3.heap.size := ⟨_, rfl⟩
 rw [← hA] at ka4 za4 hs3 ⊢
 have KA4 := hide ka4
 clear hb4 ka4 B3 RD3 OL3 hA KG3 KH3
 obtain ⟨k, hkk⟩ : ∃ k, k = w4.heap.size := ⟨_, rfl⟩
 refine (l1New_any a n c zs w4 (HR.out.mono B4.out) hn (fun h0 x hx => by have := HLT.out h0 x hx; have := B4.out.size; omega)).mono ?_
 rintro e w5 ⟨rfl, hc5, hb5⟩
 rw [← hkk] at hc5 ⊢
 have hk4 : w4.heap.size ≤ k := Nat.le_of_eq hkk.symm
 clear hkk
 have CUR5 := hide hc5
 have D5 := hide hb5
 clear hc5 hb5
 have KGw5 := hide (Blk.below D5.out (by omega) KG4.out)
 have KHw5 := hide (Blk.below D5.out (by omega) KH4.out)
 have KAw5 := hide (Blk.below D5.out za4 KA4.out)
 have RDw5 := hide (RD4.out.mono D5.out)
 have OLw5 := hide (own_later OL4.out D5.out)
 have Bw5 := hide (B4.out.trans (D5.out.mono B4.out.size))
 obtain ⟨ca0, ca1, ca2, ca3, ca4, ca5, ca6, ca7, ca8, ca9⟩ := Blk.cs10 KAw5.out
 have hgl : G + 2 ≤ gl := own_base OL4.out
 by_cases ht0 : r.types.length = 0
 case pos =>
  have htq : ((r.types.length : Int) == 0) = true := by simp [ht0]
  obtain ⟨q0, qf0, q1, qf1, q2, qf2, q3, qf3, q4, qf4, q5, qf5, q6, qf6, q7, qf7, q8, qf8, q9, qf9⟩ := Blk.cf10 KGw5.out
  obtain ⟨p0, pf0, p1, pf1, p2, pf2, p3, pf3, p4, pf4, p5, pf5, p6, pf6⟩ := Blk.cf7 KHw5.out
  have HD : Hid (RdReq (writeCells (writeCells w5 G 0 [.int .i64 r.way, .int .i64 r.pal.wd, .int .i64 r.pal.dp, .int .i64 r.pal.ht, .int .i64 r.pal.gram, .int .i64 r.classes, .slice ap r.pairs.length cp, .slice ta 0 ct, .int .i64 r.master, .slice ai r.items.length ci]) (G + 1) 0 [.int .i64 0, .int .i64 0, .int .i64 0, .int .i64 0, .int .i64 0, .int .i64 0, .int .i64 0]) r ⟨ap, ta, ai, cp, ct, ci⟩) := rdq_write (far_lst HF2.out (by omega)) _ _ _ (rdq_write (far_lst HF2.out (by omega)) _ _ _ RDw5.out)
  have HBf : Hid (Below w.heap.size w (writeCells (writeCells w5 G 0 [.int .i64 r.way, .int .i64 r.pal.wd, .int .i64 r.pal.dp, .int .i64 r.pal.ht, .int .i64 r.pal.gram, .int .i64 r.classes, .slice ap r.pairs.length cp, .slice ta 0 ct, .int .i64 r.master, .slice ai r.items.length ci]) (G + 1) 0 [.int .i64 0, .int .i64 0, .int .i64 0, .int .i64 0, .int .i64 0, .int .i64 0, .int .i64 0])) := below_write (by omega) _ _ _ _ (below_write hGw _ _ _ _ Bw5.out)
  have HF : Hid (From w.heap.size ⟨ap, ta, ai, cp, ct, ci⟩) := ⟨fun x hx => by have := HF2.out.fp x hx; omega, fun x hx => by have := HF2.out.ft x hx; omega, fun x hx => by have := HF2.out.fi x hx; omega⟩
  have HRF : Hid (Rd (writeCells (writeCells w5 G 0 [.int .i64 r.way, .int .i64 r.pal.wd, .int .i64 r.pal.dp, .int .i64 r.pal.ht, .int .i64 r.pal.gram, .int .i64 r.classes, .slice ap r.pairs.length cp, .slice ta 0 ct, .int .i64 r.master, .slice ai r.items.length ci]) (G + 1) 0 [.int .i64 0, .int .i64 0, .int .i64 0, .int .i64 0, .int .i64 0, .int .i64 0, .int .i64 0]) (some ⟨gl, 0, none⟩) (us).length (us)) := rd_writes (fun x hx => by cases hx; show gl ≠ G + 1; omega) _ _ _ (rd_writes (fun x hx => by cases hx; show gl ≠ G; omega) _ _ _ (Rd.of_owns OLw5.out))
  have KF : Hid (Blk (writeCells (writeCells w5 G 0 [.int .i64 r.way, .int .i64 r.pal.wd, .int .i64 r.pal.dp, .int .i64 r.pal.ht, .int .i64 r.pal.gram, .int .i64 r.classes, .slice ap r.pairs.length cp, .slice ta 0 ct, .int .i64 r.master, .slice ai r.items.length ci]) (G + 1) 0 [.int .i64 0, .int .i64 0, .int .i64 0, .int .i64 0, .int .i64 0, .int .i64 0, .int .i64 0]) G [.int .i64 r.way, .int .i64 r.pal.wd, .int .i64 r.pal.dp, .int .i64 r.pal.ht, .int .i64 r.pal.gram, .int .i64 r.classes, .slice ap r.pairs.length cp, .slice ta 0 ct, .int .i64 r.master, .slice ai r.items.length ci]) := blk_writes (by omega) _ _ _ (Blk.fill10 KGw5.out)
  have KFH : Hid (Blk (writeCells (writeCells w5 G 0 [.int .i64 r.way, .int .i64 r.pal.wd, .int .i64 r.pal.dp, .int .i64 r.pal.ht, .int .i64 r.pal.gram, .int .i64 r.classes, .slice ap r.pairs.length cp, .slice ta 0 ct, .int .i64 r.master, .slice ai r.items.length ci]) (G + 1) 0 [.int .i64 0, .int .i64 0, .int .i64 0, .int .i64 0, .int .i64 0, .int .i64 0, .int .i64 0]) (G + 1) [.int .i64 0, .int .i64 0, .int .i64 0, .int .i64 0, .int .i64 0, .int .i64 0, .int .i64 0]) := Blk.fill7 (blk_writes (by omega) _ _ _ KHw5.out)
  clear KGw5 KHw5 KAw5 RDw5 OLw5 Bw5 D5 CUR5
  go_wp2_with fail
  have EW : (((((((((((((((((w5.setCell ⟨G, 0, none⟩ (.int .i64 r.way)).setCell ⟨G, 1, none⟩ (.int .i64 r.pal.wd)).setCell ⟨G, 2, none⟩ (.int .i64 r.pal.dp)).setCell ⟨G, 3, none⟩ (.int .i64 r.pal.ht)).setCell ⟨G, 4, none⟩ (.int .i64 r.pal.gram)).setCell ⟨G, 5, none⟩ (.int .i64 r.classes)).setCell ⟨G, 6, none⟩ (.slice ap r.pairs.length cp)).setCell ⟨G, 7, none⟩ (.slice ta 0 ct)).setCell ⟨G, 8, none⟩ (.int .i64 r.master)).setCell ⟨G, 9, none⟩ (.slice ai r.items.length ci)).setCell ⟨(G + 1), 0, none⟩ (.int .i64 0)).setCell ⟨(G + 1), 1, none⟩ (.int .i64 0)).setCell ⟨(G + 1), 2, none⟩ (.int .i64 0)).setCell ⟨(G + 1), 3, none⟩ (.int .i64 0)).setCell ⟨(G + 1), 4, none⟩ (.int .i64 0)).setCell ⟨(G + 1), 5, none⟩ (.int .i64 0)).setCell ⟨(G + 1), 6, none⟩ (.int .i64 0)) = (writeCells (writeCells w5 G 0 [.int .i64 r.way, .int .i64 r.pal.wd, .int .i64 r.pal.dp, .int .i64 r.pal.ht, .int .i64 r.pal.gram, .int .i64 r.classes, .slice ap r.pairs.length cp, .slice ta 0 ct, .int .i64 r.master, .slice ai r.items.length ci]) (G + 1) 0 [.int .i64 0, .int .i64 0, .int .i64 0, .int .i64 0, .int .i64 0, .int .i64 0, .int .i64 0]) := rfl
  rw [EW]
  have e0 := (KF.out 0 (by simp)).1
  have e1 := (KF.out 1 (by simp)).1
  have e2 := (KF.out 2 (by simp)).1
  have e3 := (KF.out 3 (by simp)).1
  have e4 := (KF.out 4 (by simp)).1
  have e5 := (KF.out 5 (by simp)).1
  have e6 := (KF.out 6 (by simp)).1
  have e7 := (KF.out 7 (by simp)).1
  have e8 := (KF.out 8 (by simp)).1
  have e9 := (KF.out 9 (by simp)).1
  have i0 := (KFH.out 0 (by simp)).1
  have i1 := (KFH.out 1 (by simp)).1
  have i2 := (KFH.out 2 (by simp)).1
  have i3 := (KFH.out 3 (by simp)).1
  have i4 := (KFH.out 4 (by simp)).1
  have i5 := (KFH.out 5 (by simp)).1
  have i6 := (KFH.out 6 (by simp)).1
  simp only [List.getElem?_cons_zero, List.getElem?_cons_succ] at e0 e1 e2 e3 e4 e5 e6 e7 e8 e9 i0 i1 i2 i3 i4 i5 i6
  refine bodyPost_ret (v := .tuple #[reqVal r ⟨ap, ta, ai, cp, ct, ci⟩, .slice (some ⟨gl, 0, none⟩) (us).length cl, .agg #[.int .i64 0, .int .i64 0, .int .i64 0, .int .i64 0, .int .i64 0, .int .i64 0, .int .i64 0]]) (by simp [results, Tryz.results40, go_sem, reqVal, ht0, e0, e1, e2, e3, e4, e5, e6, e7, e8, e9, i0, i1, i2, i3, i4, i5, i6]) rfl ?_
  exact ⟨r, ⟨ap, ta, ai, cp, ct, ci⟩, gl, cl, us, TypeV.zero, rfl, unhide HL, unhide HD, unhide HF, unhide HRF, by (try simp); omega, unhide HBf, by omega⟩
 have htq : ((r.types.length : Int) == 0) = false := by simp [ht0]
 go_wp2_with fail
 refine (l1Below_any k a n c zs 3 w5 CUR5.out (by omega) (by omega)).mono ?_
 rintro e w6 ⟨x, rfl, hx0, hx3, hc6, hg6⟩
 have D6 := hide (D5.out.grown hg6 D5.out.size (fun q hq => by cases hq; omega))
 have CUR6 := hide hc6
 clear hc6 hg6 CUR5 D5 KGw5 KHw5 KAw5 RDw5 OLw5 Bw5 ca0 ca1 ca2 ca3 ca4 ca5 ca6 ca7 ca8 ca9
 have KGw6 := hide (Blk.below D6.out (by omega) KG4.out)
 have KHw6 := hide (Blk.below D6.out (by omega) KH4.out)
 have KAw6 := hide (Blk.below D6.out za4 KA4.out)
 have RDw6 := hide (RD4.out.mono D6.out)
 have OLw6 := hide (own_later OL4.out D6.out)
 have Bw6 := hide (B4.out.trans (D6.out.mono B4.out.size))
 obtain ⟨X, rfl⟩ : ∃ X : Nat, x = (X : Int) := ⟨x.toNat, by omega⟩
 have hcl : us.length ≤ cl := (own_cap OLw6.out).1
 go_upto_if 28 with fail
 go_cut [6] (fun v wc => ∃ m : Nat, m ≤ us.length ∧ v = .slice (some ⟨gl, 0, none⟩) m cl ∧ wc = w6)
 case first =>
  by_cases hx : X < us.length
  · go_wp2_with fail
    go_meet
    case rel => exact ⟨X, by omega, rfl, rfl⟩
  · go_wp2_with fail
    go_meet
    case rel => exact ⟨us.length, Nat.le_refl _, rfl, rfl⟩
 case rest =>
  obtain ⟨m, hm, rfl, hw⟩ := hcut
  have hw := hw.symm
  subst hw
  obtain ⟨b, off, hta, _⟩ := RDw6.out.2.1.2 0 (by omega)
  simp only at hta
  subst hta
  skip
  go_upto_region 8 with fail
  have Nqga : G ≠ A := by omega
  have Nqag : A ≠ G := by omega
  have ZAw6 : A < w6.heap.size := Nat.lt_of_lt_of_le za4 D6.out.size
  have ZGw6 : G < w6.heap.size := by omega
  have ZHw6 : G + 1 < w6.heap.size := by omega
  have GG : w.heap.size ≤ G := hGw
  have QDw6 := D6
  have QCw6 := CUR6
  have hgl6 := (OLw6.out.lt gl rfl).2
  clear D6 CUR6 RDw6 OLw6
  refine wp_region_noPanic ?_
  have Bu0 : Hid (Below w.heap.size w w6.drew) := Bw6.out.drew
  have QDu0 : Hid (Below w4.heap.size w4 w6.drew) := QDw6.out.trans ((Below.refl _ _).drew.mono QDw6.out.size)
  have QCu0 : Hid (Cur w6.drew k a n c zs) := QCw6.out.mono (Below.refl _ _).drew
  have KAu0 : Hid (Blk w6.drew A [.int .i64 r.way, .int .i64 r.pal.wd, .int .i64 r.pal.dp, .int .i64 r.pal.ht, .int .i64 r.pal.gram, .int .i64 r.classes, .slice ap r.pairs.length cp, .slice (some ⟨b, off, none⟩) r.types.length ct, .int .i64 r.master, .slice ai r.items.length ci]) := unhide KAw6
  have ZAu0 : A < w6.drew.heap.size := ZAw6
  have KGu0 : Hid (Blk w6.drew G [.int .i64 0, .int .i64 0, .int .i64 0, .int .i64 0, .int .i64 0, .int .i64 0, .slice none 0 0, .slice none 0 0, .int .i64 0, .slice none 0 0]) := unhide KGw6
  have ZGu0 : G < w6.drew.heap.size := ZGw6
  have KHu0 : Hid (Blk w6.drew (G + 1) [.int .i64 0, .int .i64 0, .int .i64 0, .int .i64 0, .int .i64 0, .int .i64 0, .int .i64 0]) := unhide KHw6
  have ZHu0 : (G + 1) < w6.drew.heap.size := ZHw6
  obtain ⟨S, hSdef⟩ : ∃ S : World → Prop, S = (fun w' => w'.cell? ⟨A, 0, none⟩ = some (.int .i64 r.way) ∧ w'.cell? ⟨A, 1, none⟩ = some (.int .i64 r.pal.wd) ∧ w'.cell? ⟨A, 2, none⟩ = some (.int .i64 r.pal.dp) ∧ w'.cell? ⟨A, 3, none⟩ = some (.int .i64 r.pal.ht) ∧ w'.cell? ⟨A, 4, none⟩ = some (.int .i64 r.pal.gram) ∧ w'.cell? ⟨A, 5, none⟩ = some (.int .i64 r.classes) ∧ w'.cell? ⟨A, 6, none⟩ = some (.slice ap r.pairs.length cp) ∧ w'.cell? ⟨A, 7, none⟩ = some (.slice (some ⟨b, off, none⟩) r.types.length ct) ∧ w'.cell? ⟨A, 8, none⟩ = some (.int .i64 r.master) ∧ w'.cell? ⟨A, 9, none⟩ = some (.slice ai r.items.length ci)) := ⟨_, rfl⟩
  have hSmk : ∀ wq, Blk wq A [.int .i64 r.way, .int .i64 r.pal.wd, .int .i64 r.pal.dp, .int .i64 r.pal.ht, .int .i64 r.pal.gram, .int .i64 r.classes, .slice ap r.pairs.length cp, .slice (some ⟨b, off, none⟩) r.types.length ct, .int .i64 r.master, .slice ai r.items.length ci] → S wq := fun wq kA => by rw [hSdef]; exact ⟨(kA 0 (by simp)).1, (kA 1 (by simp)).1, (kA 2 (by simp)).1, (kA 3 (by simp)).1, (kA 4 (by simp)).1, (kA 5 (by simp)).1, (kA 6 (by simp)).1, (kA 7 (by simp)).1, (kA 8 (by simp)).1, (kA 9 (by simp)).1⟩
  have hSd : ∀ wq, S wq → (fun w' => w'.cell? ⟨A, 0, none⟩ = some (.int .i64 r.way) ∧ w'.cell? ⟨A, 1, none⟩ = some (.int .i64 r.pal.wd) ∧ w'.cell? ⟨A, 2, none⟩ = some (.int .i64 r.pal.dp) ∧ w'.cell? ⟨A, 3, none⟩ = some (.int .i64 r.pal.ht) ∧ w'.cell? ⟨A, 4, none⟩ = some (.int .i64 r.pal.gram) ∧ w'.cell? ⟨A, 5, none⟩ = some (.int .i64 r.classes) ∧ w'.cell? ⟨A, 6, none⟩ = some (.slice ap r.pairs.length cp) ∧ w'.cell? ⟨A, 7, none⟩ = some (.slice (some ⟨b, off, none⟩) r.types.length ct) ∧ w'.cell? ⟨A, 8, none⟩ = some (.int .i64 r.master) ∧ w'.cell? ⟨A, 9, none⟩ = some (.slice ai r.items.length ci)) wq := fun wq h => by rw [hSdef] at h; exact h
  clear hSdef
  have hHeld : S w6.drew := hSmk w6.drew KAu0.out
  refine wp_region_to (S := S) (T := []) (by kernel_rfl) hHeld (fun _ => ?_)
  generalize w6.drew = u0 at *
  refine wpTo_ts (i := 0) (v := ?_) rfl (by kernel_rfl) hSd (by rfl) (fun w hSw => ?_) (by assumption) ?_
  rotate_left
  · ((try dsimp only [RqC] at hSw); go_simp <;> with_reducible rfl)
  try simp only [Act.put, zz1, zz2, zz3, zz4, zz5, zz6]
  refine wpTo_ts (i := 1) (v := ?_) rfl (by kernel_rfl) hSd (by rfl) (fun w hSw => ?_) (by assumption) ?_
  rotate_left
  · ((try dsimp only [RqC] at hSw); go_simp <;> with_reducible rfl)
  refine wpTo_ts (i := 2) (v := ?_) rfl (by kernel_rfl) hSd (by rfl) (fun w hSw => ?_) (by assumption) ?_
  rotate_left
  · ((try dsimp only [RqC] at hSw); go_simp <;> with_reducible rfl)
  refine wpTo_ts (i := 3) (v := ?_) rfl (by kernel_rfl) hSd (by rfl) (fun w hSw => ?_) (by assumption) ?_
  rotate_left
  · ((try dsimp only [RqC] at hSw); go_simp <;> with_reducible rfl)
  try simp only [Act.put, zz1, zz2, zz3, zz4, zz5, zz6]
  refine wpTo_ts (i := 4) (v := ?_) rfl (by kernel_rfl) hSd (by rfl) (fun w hSw => ?_) (by assumption) ?_
  rotate_left
  · ((try dsimp only [RqC] at hSw); go_simp <;> with_reducible rfl)
  refine wpTo_ts (i := 5) (v := ?_) rfl (by kernel_rfl) hSd (by rfl) (fun w hSw => ?_) (by assumption) ?_
  rotate_left
  · ((try dsimp only [RqC] at hSw); go_simp <;> with_reducible rfl)
  refine wpTo_ts (i := 6) (v := ?_) rfl (by kernel_rfl) hSd (by rfl) (fun w hSw => ?_) (by assumption) ?_
  rotate_left
  · ((try dsimp only [RqC] at hSw); go_simp <;> with_reducible rfl)
  try simp only [Act.put, zz1, zz2, zz3, zz4, zz5, zz6]
  refine wpTo_ts (i := 7) (v := ?_) rfl (by kernel_rfl) hSd (by rfl) (fun w hSw => ?_) (by assumption) ?_
  rotate_left
  · ((try dsimp only [RqC] at hSw); go_simp <;> with_reducible rfl)
  try simp only [Act.put, zz1, zz2, zz3, zz4, zz5, zz6]
  refine wpTo_ready (rs := [8]) (by kernel_rfl) (by simp) ?_
  refine AllTo.cons (o := _) rfl (fun K hK => ?_) ?_
  ·
   (try simp only [zz1, zz2, zz3])
   go_simp
   refine (l1Below_any k a n c zs (r.types.length : Int) u0 QCu0.out (by omega) (by have := HL.out.lt; omega)).mono ?_
   rintro e u1 ⟨y, rfl, hy0, hy2, hcc, hg⟩
   have Bu1 := hide (Bu0.out.grown hg Bu0.out.size (fun q hq => by cases hq; omega))
   have QDu1 := hide (QDu0.out.grown hg QDu0.out.size (fun q hq => by cases hq; omega))
   have KAu1 := hide (Blk.gb KAu0.out hg ZAu0 (by omega))
   have ZAu1 := Nat.lt_of_lt_of_le ZAu0 hg.size
   have KGu1 := hide (Blk.gb KGu0.out hg ZGu0 (by omega))
   have ZGu1 := Nat.lt_of_lt_of_le ZGu0 hg.size
   have KHu1 := hide (Blk.gb KHu0.out hg ZHu0 (by omega))
   have ZHu1 := Nat.lt_of_lt_of_le ZHu0 hg.size
   clear hg hcc
   clear Bu0 KAu0 ZAu0 KGu0 ZGu0 KHu0 ZHu0 QDu0 QCu0
   clear hHeld
   obtain ⟨Y, rfl⟩ : ∃ Y : Nat, y = (Y : Int) := ⟨y.toNat, by omega⟩
   have hY : Y < r.types.length := by omega
   go_wp2_with fail
   have hHeld := hSmk u1 KAu1.out
   refine hK.out _ _ (fun _ => hHeld) ?_
   clear hK K
   try simp only [Act.put, zz1, zz2, zz3, zz4, zz5, zz6]
   refine wpTo_ready (rs := [9, 11]) (by kernel_rfl) (by simp) ?_
   refine AllTo.cons (o := _) rfl (fun K hK => ?_) ?_
   ·
    (try simp only [zz1, zz2, zz3])
    go_simp
    refine hK.out _ _ (fun _ => hHeld) ?_
    clear hK K
    try simp only [Act.put, zz1, zz2, zz3, zz4, zz5, zz6]
    refine wpTo_ready (rs := [10, 11]) (by kernel_rfl) (by simp) ?_
    refine AllTo.cons (o := _) rfl (fun K hK => ?_) ?_
    ·
     (try simp only [zz1, zz2, zz3])
     have HQT := hide ((RD4.out.mono QDu1.out).2.1.2 Y hY)
     obtain ⟨b2, off2, hb2, hc⟩ := unhide HQT
     injection hb2 with hb2
     injection hb2 with hb3 hb4
     subst hb3
     subst hb4
     clear HQT
     generalize r.types.getD Y default = qt at hc
     have d0 : u1.cell? ⟨b, off + Y * 7, none⟩ = some (.int .i64 qt.id) := hc 0 (by omega)
     have d1 : u1.cell? ⟨b, off + Y * 7 + 1, none⟩ = some (.int .i64 qt.wd) := hc 1 (by omega)
     have d2 : u1.cell? ⟨b, off + Y * 7 + 2, none⟩ = some (.int .i64 qt.ht) := hc 2 (by omega)
     have d3 : u1.cell? ⟨b, off + Y * 7 + 3, none⟩ = some (.int .i64 qt.dp) := hc 3 (by omega)
     have d4 : u1.cell? ⟨b, off + Y * 7 + 4, none⟩ = some (.int .i64 qt.tare) := hc 4 (by omega)
     have d5 : u1.cell? ⟨b, off + Y * 7 + 5, none⟩ = some (.int .i64 qt.gram) := hc 5 (by omega)
     have d6 : u1.cell? ⟨b, off + Y * 7 + 6, none⟩ = some (.int .i64 qt.cost) := hc 6 (by omega)
     clear hc
     go_simp
     clear d0 d1 d2 d3 d4 d5 d6
     refine hK.out _ _ (fun _ => hHeld) ?_
     clear hK K
     try simp only [Act.put, zz1, zz2, zz3, zz4, zz5, zz6]
     refine wpTo_ready (rs := [11]) (by kernel_rfl) (by simp) ?_
     refine AllTo.cons (o := _) rfl (fun K hK => ?_) ?_
     ·
      (try simp only [zz1, zz2, zz3])
      have RDu1 := hide (RD4.out.mono QDu1.out)
      have OLu1 := hide (own_later OL4.out QDu1.out)
      obtain ⟨q0, qf0, q1, qf1, q2, qf2, q3, qf3, q4, qf4, q5, qf5, q6, qf6, q7, qf7, q8, qf8, q9, qf9⟩ := Blk.cf10 KGu1.out
      go_simp
      clear q0 qf0 q1 qf1 q2 qf2 q3 qf3 q4 qf4 q5 qf5 q6 qf6 q7 qf7 q8 qf8 q9 qf9
      have EW : ((((((((((u1.setCell ⟨G, 0, none⟩ (.int .i64 r.way)).setCell ⟨G, 1, none⟩ (.int .i64 r.pal.wd)).setCell ⟨G, 2, none⟩ (.int .i64 r.pal.dp)).setCell ⟨G, 3, none⟩ (.int .i64 r.pal.ht)).setCell ⟨G, 4, none⟩ (.int .i64 r.pal.gram)).setCell ⟨G, 5, none⟩ (.int .i64 r.classes)).setCell ⟨G, 6, none⟩ (.slice ap r.pairs.length cp)).setCell ⟨G, 7, none⟩ (.slice (some ⟨b, off, none⟩) r.types.length ct)).setCell ⟨G, 8, none⟩ (.int .i64 r.master)).setCell ⟨G, 9, none⟩ (.slice ai r.items.length ci)) = writeCells u1 G 0 [.int .i64 r.way, .int .i64 r.pal.wd, .int .i64 r.pal.dp, .int .i64 r.pal.ht, .int .i64 r.pal.gram, .int .i64 r.classes, .slice ap r.pairs.length cp, .slice (some ⟨b, off, none⟩) r.types.length ct, .int .i64 r.master, .slice ai r.items.length ci] := rfl
      rw [EW]
      clear EW
      have HD1 : Hid (RdReq (writeCells u1 G 0 [.int .i64 r.way, .int .i64 r.pal.wd, .int .i64 r.pal.dp, .int .i64 r.pal.ht, .int .i64 r.pal.gram, .int .i64 r.classes, .slice ap r.pairs.length cp, .slice (some ⟨b, off, none⟩) r.types.length ct, .int .i64 r.master, .slice ai r.items.length ci]) r ⟨ap, some ⟨b, off, none⟩, ai, cp, ct, ci⟩) := rdq_write (far_lst HF2.out (by omega)) _ _ _ RDu1.out
      have HB1 : Hid (Below w.heap.size w (writeCells u1 G 0 [.int .i64 r.way, .int .i64 r.pal.wd, .int .i64 r.pal.dp, .int .i64 r.pal.ht, .int .i64 r.pal.gram, .int .i64 r.classes, .slice ap r.pairs.length cp, .slice (some ⟨b, off, none⟩) r.types.length ct, .int .i64 r.master, .slice ai r.items.length ci])) := below_write hGw _ _ _ _ Bu1.out
      have HR1 : Hid (Rd (writeCells u1 G 0 [.int .i64 r.way, .int .i64 r.pal.wd, .int .i64 r.pal.dp, .int .i64 r.pal.ht, .int .i64 r.pal.gram, .int .i64 r.classes, .slice ap r.pairs.length cp, .slice (some ⟨b, off, none⟩) r.types.length ct, .int .i64 r.master, .slice ai r.items.length ci]) (some ⟨gl, 0, none⟩) us.length us) := rd_writes (fun x hx => by cases hx; show gl ≠ G; omega) _ _ _ (Rd.of_owns OLu1.out)
      have KG1 : Hid (Blk (writeCells u1 G 0 [.int .i64 r.way, .int .i64 r.pal.wd, .int .i64 r.pal.dp, .int .i64 r.pal.ht, .int .i64 r.pal.gram, .int .i64 r.classes, .slice ap r.pairs.length cp, .slice (some ⟨b, off, none⟩) r.types.length ct, .int .i64 r.master, .slice ai r.items.length ci]) G [.int .i64 r.way, .int .i64 r.pal.wd, .int .i64 r.pal.dp, .int .i64 r.pal.ht, .int .i64 r.pal.gram, .int .i64 r.classes, .slice ap r.pairs.length cp, .slice (some ⟨b, off, none⟩) r.types.length ct, .int .i64 r.master, .slice ai r.items.length ci]) := Blk.fill10 KGu1.out
      have KHu2 : Hid (Blk (writeCells u1 G 0 [.int .i64 r.way, .int .i64 r.pal.wd, .int .i64 r.pal.dp, .int .i64 r.pal.ht, .int .i64 r.pal.gram, .int .i64 r.classes, .slice ap r.pairs.length cp, .slice (some ⟨b, off, none⟩) r.types.length ct, .int .i64 r.master, .slice ai r.items.length ci]) (G + 1) [.int .i64 0, .int .i64 0, .int .i64 0, .int .i64 0, .int .i64 0, .int .i64 0, .int .i64 0]) := blk_writes (by omega) _ _ _ KHu1.out
      have KAu2 : Hid (Blk (writeCells u1 G 0 [.int .i64 r.way, .int .i64 r.pal.wd, .int .i64 r.pal.dp, .int .i64 r.pal.ht, .int .i64 r.pal.gram, .int .i64 r.classes, .slice ap r.pairs.length cp, .slice (some ⟨b, off, none⟩) r.types.length ct, .int .i64 r.master, .slice ai r.items.length ci]) A [.int .i64 r.way, .int .i64 r.pal.wd, .int .i64 r.pal.dp, .int .i64 r.pal.ht, .int .i64 r.pal.gram, .int .i64 r.classes, .slice ap r.pairs.length cp, .slice (some ⟨b, off, none⟩) r.types.length ct, .int .i64 r.master, .slice ai r.items.length ci]) := blk_writes Nqag _ _ _ KAu1.out
      clear Bu1 KAu1 ZAu1 KGu1 ZGu1 KHu1 ZHu1 QDu1
      clear hHeld RDu1 OLu1
      generalize writeCells u1 G 0 [.int .i64 r.way, .int .i64 r.pal.wd, .int .i64 r.pal.dp, .int .i64 r.pal.ht, .int .i64 r.pal.gram, .int .i64 r.classes, .slice ap r.pairs.length cp, .slice (some ⟨b, off, none⟩) r.types.length ct, .int .i64 r.master, .slice ai r.items.length ci] = u2 at *
      have hHeld := hSmk u2 KAu2.out
      refine hK.out _ _ (fun _ => hHeld) ?_
      clear hK K
      try simp only [Act.put, zz1, zz2, zz3, zz4, zz5, zz6]
      refine wpTo_ts (i := 12) (v := ?_) rfl (by kernel_rfl) hSd (by rfl) (fun w hSw => ?_) (by assumption) ?_
      rotate_left
      · ((try dsimp only [RqC] at hSw); go_simp <;> with_reducible rfl)
      try simp only [Act.put, zz1, zz2, zz3, zz4, zz5, zz6]
      refine wpTo_ready (rs := [13]) (by kernel_rfl) (by simp) ?_
      refine AllTo.cons (o := _) rfl (fun K hK => ?_) ?_
      ·
       (try simp only [zz1, zz2, zz3])
       obtain ⟨p0, pf0, p1, pf1, p2, pf2, p3, pf3, p4, pf4, p5, pf5, p6, pf6⟩ := Blk.cf7 KHu2.out
       go_simp
       clear p0 pf0 p1 pf1 p2 pf2 p3 pf3 p4 pf4 p5 pf5 p6 pf6
       have EW : (((((((u2.setCell ⟨(G + 1), 0, none⟩ (.int .i64 qt.id)).setCell ⟨(G + 1), 1, none⟩ (.int .i64 qt.wd)).setCell ⟨(G + 1), 2, none⟩ (.int .i64 qt.ht)).setCell ⟨(G + 1), 3, none⟩ (.int .i64 qt.dp)).setCell ⟨(G + 1), 4, none⟩ (.int .i64 qt.tare)).setCell ⟨(G + 1), 5, none⟩ (.int .i64 qt.gram)).setCell ⟨(G + 1), 6, none⟩ (.int .i64 qt.cost)) = writeCells u2 (G + 1) 0 [.int .i64 qt.id, .int .i64 qt.wd, .int .i64 qt.ht, .int .i64 qt.dp, .int .i64 qt.tare, .int .i64 qt.gram, .int .i64 qt.cost] := rfl
       rw [EW]
       clear EW
       have HD : Hid (RdReq (writeCells u2 (G + 1) 0 [.int .i64 qt.id, .int .i64 qt.wd, .int .i64 qt.ht, .int .i64 qt.dp, .int .i64 qt.tare, .int .i64 qt.gram, .int .i64 qt.cost]) r ⟨ap, some ⟨b, off, none⟩, ai, cp, ct, ci⟩) := rdq_write (far_lst HF2.out (by omega)) _ _ _ HD1.out
       have HBf : Hid (Below w.heap.size w (writeCells u2 (G + 1) 0 [.int .i64 qt.id, .int .i64 qt.wd, .int .i64 qt.ht, .int .i64 qt.dp, .int .i64 qt.tare, .int .i64 qt.gram, .int .i64 qt.cost])) := below_write (by omega) _ _ _ _ HB1.out
       have HRF : Hid (Rd (writeCells u2 (G + 1) 0 [.int .i64 qt.id, .int .i64 qt.wd, .int .i64 qt.ht, .int .i64 qt.dp, .int .i64 qt.tare, .int .i64 qt.gram, .int .i64 qt.cost]) (some ⟨gl, 0, none⟩) us.length us) := rd_writes (fun x hx => by cases hx; show gl ≠ G + 1; omega) _ _ _ HR1.out
       have KF : Hid (Blk (writeCells u2 (G + 1) 0 [.int .i64 qt.id, .int .i64 qt.wd, .int .i64 qt.ht, .int .i64 qt.dp, .int .i64 qt.tare, .int .i64 qt.gram, .int .i64 qt.cost]) G [.int .i64 r.way, .int .i64 r.pal.wd, .int .i64 r.pal.dp, .int .i64 r.pal.ht, .int .i64 r.pal.gram, .int .i64 r.classes, .slice ap r.pairs.length cp, .slice (some ⟨b, off, none⟩) r.types.length ct, .int .i64 r.master, .slice ai r.items.length ci]) := blk_writes (by omega) _ _ _ KG1.out
       have KFH : Hid (Blk (writeCells u2 (G + 1) 0 [.int .i64 qt.id, .int .i64 qt.wd, .int .i64 qt.ht, .int .i64 qt.dp, .int .i64 qt.tare, .int .i64 qt.gram, .int .i64 qt.cost]) (G + 1) [.int .i64 qt.id, .int .i64 qt.wd, .int .i64 qt.ht, .int .i64 qt.dp, .int .i64 qt.tare, .int .i64 qt.gram, .int .i64 qt.cost]) := Blk.fill7 KHu2.out
       have KAu3 : Hid (Blk (writeCells u2 (G + 1) 0 [.int .i64 qt.id, .int .i64 qt.wd, .int .i64 qt.ht, .int .i64 qt.dp, .int .i64 qt.tare, .int .i64 qt.gram, .int .i64 qt.cost]) A [.int .i64 r.way, .int .i64 r.pal.wd, .int .i64 r.pal.dp, .int .i64 r.pal.ht, .int .i64 r.pal.gram, .int .i64 r.classes, .slice ap r.pairs.length cp, .slice (some ⟨b, off, none⟩) r.types.length ct, .int .i64 r.master, .slice ai r.items.length ci]) := blk_writes (by omega) _ _ _ KAu2.out
       clear hHeld HD1 HB1 HR1 KG1 KAu2 KHu2
       generalize writeCells u2 (G + 1) 0 [.int .i64 qt.id, .int .i64 qt.wd, .int .i64 qt.ht, .int .i64 qt.dp, .int .i64 qt.tare, .int .i64 qt.gram, .int .i64 qt.cost] = u3 at *
       have hHeld := hSmk u3 KAu3.out
       refine hK.out _ _ (fun _ => hHeld) ?_
       clear hK K
       try simp only [Act.put, zz1, zz2, zz3, zz4, zz5, zz6]
       refine wpTo_done (by kernel_rfl) ?_ _
       refine NoPanic.normal ?_
       go_wp2_with fail
       have HF : Hid (From w.heap.size ⟨ap, some ⟨b, off, none⟩, ai, cp, ct, ci⟩) := ⟨fun x hx => by have := HF2.out.fp x hx; omega, fun x hx => by have := HF2.out.ft x hx; omega, fun x hx => by have := HF2.out.fi x hx; omega⟩
       have e0 := (KF.out 0 (by simp)).1
       have e1 := (KF.out 1 (by simp)).1
       have e2 := (KF.out 2 (by simp)).1
       have e3 := (KF.out 3 (by simp)).1
       have e4 := (KF.out 4 (by simp)).1
       have e5 := (KF.out 5 (by simp)).1
       have e6 := (KF.out 6 (by simp)).1
       have e7 := (KF.out 7 (by simp)).1
       have e8 := (KF.out 8 (by simp)).1
       have e9 := (KF.out 9 (by simp)).1
       have i0 := (KFH.out 0 (by simp)).1
       have i1 := (KFH.out 1 (by simp)).1
       have i2 := (KFH.out 2 (by simp)).1
       have i3 := (KFH.out 3 (by simp)).1
       have i4 := (KFH.out 4 (by simp)).1
       have i5 := (KFH.out 5 (by simp)).1
       have i6 := (KFH.out 6 (by simp)).1
       simp only [List.getElem?_cons_zero, List.getElem?_cons_succ] at e0 e1 e2 e3 e4 e5 e6 e7 e8 e9 i0 i1 i2 i3 i4 i5 i6
       have hml : (us.take m).length = m := by rw [List.length_take]; omega
       refine bodyPost_ret (v := .tuple #[reqVal r ⟨ap, some ⟨b, off, none⟩, ai, cp, ct, ci⟩, .slice (some ⟨gl, 0, none⟩) m cl, .agg #[.int .i64 qt.id, .int .i64 qt.wd, .int .i64 qt.ht, .int .i64 qt.dp, .int .i64 qt.tare, .int .i64 qt.gram, .int .i64 qt.cost]]) (by simp [results, Tryz.results40, go_sem, reqVal, e0, e1, e2, e3, e4, e5, e6, e7, e8, e9, i0, i1, i2, i3, i4, i5, i6]) rfl ?_
       exact ⟨r, ⟨ap, some ⟨b, off, none⟩, ai, cp, ct, ci⟩, gl, cl, us.take m, ⟨qt, by rw [hml]⟩, unhide HL, unhide HD, unhide HF, by rw [hml]; exact rd_take HRF.out m hm, by omega, unhide HBf, by omega⟩
      exact AllTo.nil
     exact AllTo.nil
    refine AllTo.cons (o := _) rfl (fun K hK => ?_) ?_
    ·
     (try simp only [zz1, zz2, zz3])
     have RDu1 := hide (RD4.out.mono QDu1.out)
     have OLu1 := hide (own_later OL4.out QDu1.out)
     obtain ⟨q0, qf0, q1, qf1, q2, qf2, q3, qf3, q4, qf4, q5, qf5, q6, qf6, q7, qf7, q8, qf8, q9, qf9⟩ := Blk.cf10 KGu1.out
     go_simp
     clear q0 qf0 q1 qf1 q2 qf2 q3 qf3 q4 qf4 q5 qf5 q6 qf6 q7 qf7 q8 qf8 q9 qf9
     have EW : ((((((((((u1.setCell ⟨G, 0, none⟩ (.int .i64 r.way)).setCell ⟨G, 1, none⟩ (.int .i64 r.pal.wd)).setCell ⟨G, 2, none⟩ (.int .i64 r.pal.dp)).setCell ⟨G, 3, none⟩ (.int .i64 r.pal.ht)).setCell ⟨G, 4, none⟩ (.int .i64 r.pal.gram)).setCell ⟨G, 5, none⟩ (.int .i64 r.classes)).setCell ⟨G, 6, none⟩ (.slice ap r.pairs.length cp)).setCell ⟨G, 7, none⟩ (.slice (some ⟨b, off, none⟩) r.types.length ct)).setCell ⟨G, 8, none⟩ (.int .i64 r.master)).setCell ⟨G, 9, none⟩ (.slice ai r.items.length ci)) = writeCells u1 G 0 [.int .i64 r.way, .int .i64 r.pal.wd, .int .i64 r.pal.dp, .int .i64 r.pal.ht, .int .i64 r.pal.gram, .int .i64 r.classes, .slice ap r.pairs.length cp, .slice (some ⟨b, off, none⟩) r.types.length ct, .int .i64 r.master, .slice ai r.items.length ci] := rfl
     rw [EW]
     clear EW
     have HD1 : Hid (RdReq (writeCells u1 G 0 [.int .i64 r.way, .int .i64 r.pal.wd, .int .i64 r.pal.dp, .int .i64 r.pal.ht, .int .i64 r.pal.gram, .int .i64 r.classes, .slice ap r.pairs.length cp, .slice (some ⟨b, off, none⟩) r.types.length ct, .int .i64 r.master, .slice ai r.items.length ci]) r ⟨ap, some ⟨b, off, none⟩, ai, cp, ct, ci⟩) := rdq_write (far_lst HF2.out (by omega)) _ _ _ RDu1.out
     have HB1 : Hid (Below w.heap.size w (writeCells u1 G 0 [.int .i64 r.way, .int .i64 r.pal.wd, .int .i64 r.pal.dp, .int .i64 r.pal.ht, .int .i64 r.pal.gram, .int .i64 r.classes, .slice ap r.pairs.length cp, .slice (some ⟨b, off, none⟩) r.types.length ct, .int .i64 r.master, .slice ai r.items.length ci])) := below_write hGw _ _ _ _ Bu1.out
     have HR1 : Hid (Rd (writeCells u1 G 0 [.int .i64 r.way, .int .i64 r.pal.wd, .int .i64 r.pal.dp, .int .i64 r.pal.ht, .int .i64 r.pal.gram, .int .i64 r.classes, .slice ap r.pairs.length cp, .slice (some ⟨b, off, none⟩) r.types.length ct, .int .i64 r.master, .slice ai r.items.length ci]) (some ⟨gl, 0, none⟩) us.length us) := rd_writes (fun x hx => by cases hx; show gl ≠ G; omega) _ _ _ (Rd.of_owns OLu1.out)
     have KG1 : Hid (Blk (writeCells u1 G 0 [.int .i64 r.way, .int .i64 r.pal.wd, .int .i64 r.pal.dp, .int .i64 r.pal.ht, .int .i64 r.pal.gram, .int .i64 r.classes, .slice ap r.pairs.length cp, .slice (some ⟨b, off, none⟩) r.types.length ct, .int .i64 r.master, .slice ai r.items.length ci]) G [.int .i64 r.way, .int .i64 r.pal.wd, .int .i64 r.pal.dp, .int .i64 r.pal.ht, .int .i64 r.pal.gram, .int .i64 r.classes, .slice ap r.pairs.length cp, .slice (some ⟨b, off, none⟩) r.types.length ct, .int .i64 r.master, .slice ai r.items.length ci]) := Blk.fill10 KGu1.out
     have KHu2 : Hid (Blk (writeCells u1 G 0 [.int .i64 r.way, .int .i64 r.pal.wd, .int .i64 r.pal.dp, .int .i64 r.pal.ht, .int .i64 r.pal.gram, .int .i64 r.classes, .slice ap r.pairs.length cp, .slice (some ⟨b, off, none⟩) r.types.length ct, .int .i64 r.master, .slice ai r.items.length ci]) (G + 1) [.int .i64 0, .int .i64 0, .int .i64 0, .int .i64 0, .int .i64 0, .int .i64 0, .int .i64 0]) := blk_writes (by omega) _ _ _ KHu1.out
     have KAu2 : Hid (Blk (writeCells u1 G 0 [.int .i64 r.way, .int .i64 r.pal.wd, .int .i64 r.pal.dp, .int .i64 r.pal.ht, .int .i64 r.pal.gram, .int .i64 r.classes, .slice ap r.pairs.length cp, .slice (some ⟨b, off, none⟩) r.types.length ct, .int .i64 r.master, .slice ai r.items.length ci]) A [.int .i64 r.way, .int .i64 r.pal.wd, .int .i64 r.pal.dp, .int .i64 r.pal.ht, .int .i64 r.pal.gram, .int .i64 r.classes, .slice ap r.pairs.length cp, .slice (some ⟨b, off, none⟩) r.types.length ct, .int .i64 r.master, .slice ai r.items.length ci]) := blk_writes Nqag _ _ _ KAu1.out
     clear Bu1 KAu1 ZAu1 KGu1 ZGu1 KHu1 ZHu1 QDu1
     clear hHeld RDu1 OLu1
     generalize writeCells u1 G 0 [.int .i64 r.way, .int .i64 r.pal.wd, .int .i64 r.pal.dp, .int .i64 r.pal.ht, .int .i64 r.pal.gram, .int .i64 r.classes, .slice ap r.pairs.length cp, .slice (some ⟨b, off, none⟩) r.types.length ct, .int .i64 r.master, .slice ai r.items.length ci] = u2 at *
     have hHeld := hSmk u2 KAu2.out
     refine hK.out _ _ (fun _ => hHeld) ?_
     clear hK K
     try simp only [Act.put, zz1, zz2, zz3, zz4, zz5, zz6]
     refine wpTo_ts (i := 12) (v := ?_) rfl (by kernel_rfl) hSd (by rfl) (fun w hSw => ?_) (by assumption) ?_
     rotate_left
     · ((try dsimp only [RqC] at hSw); go_simp <;> with_reducible rfl)
     try simp only [Act.put, zz1, zz2, zz3, zz4, zz5, zz6]
     refine wpTo_ready (rs := [10]) (by kernel_rfl) (by simp) ?_
     refine AllTo.cons (o := _) rfl (fun K hK => ?_) ?_
     ·
      (try simp only [zz1, zz2, zz3])
      have HQT := hide (HD1.out.2.1.2 Y hY)
      obtain ⟨b2, off2, hb2, hc⟩ := unhide HQT
      injection hb2 with hb2
      injection hb2 with hb3 hb4
      subst hb3
      subst hb4
      clear HQT
      generalize r.types.getD Y default = qt at hc
      have d0 : u2.cell? ⟨b, off + Y * 7, none⟩ = some (.int .i64 qt.id) := hc 0 (by omega)
      have d1 : u2.cell? ⟨b, off + Y * 7 + 1, none⟩ = some (.int .i64 qt.wd) := hc 1 (by omega)
      have d2 : u2.cell? ⟨b, off + Y * 7 + 2, none⟩ = some (.int .i64 qt.ht) := hc 2 (by omega)
      have d3 : u2.cell? ⟨b, off + Y * 7 + 3, none⟩ = some (.int .i64 qt.dp) := hc 3 (by omega)
      have d4 : u2.cell? ⟨b, off + Y * 7 + 4, none⟩ = some (.int .i64 qt.tare) := hc 4 (by omega)
      have d5 : u2.cell? ⟨b, off + Y * 7 + 5, none⟩ = some (.int .i64 qt.gram) := hc 5 (by omega)
      have d6 : u2.cell? ⟨b, off + Y * 7 + 6, none⟩ = some (.int .i64 qt.cost) := hc 6 (by omega)
      clear hc
      go_simp
      clear d0 d1 d2 d3 d4 d5 d6
      refine hK.out _ _ (fun _ => hHeld) ?_
      clear hK K
      try simp only [Act.put, zz1, zz2, zz3, zz4, zz5, zz6]
      refine wpTo_ready (rs := [13]) (by kernel_rfl) (by simp) ?_
      refine AllTo.cons (o := _) rfl (fun K hK => ?_) ?_
      ·
       (try simp only [zz1, zz2, zz3])
       obtain ⟨p0, pf0, p1, pf1, p2, pf2, p3, pf3, p4, pf4, p5, pf5, p6, pf6⟩ := Blk.cf7 KHu2.out
       go_simp
       clear p0 pf0 p1 pf1 p2 pf2 p3 pf3 p4 pf4 p5 pf5 p6 pf6
       have EW : (((((((u2.setCell ⟨(G + 1), 0, none⟩ (.int .i64 qt.id)).setCell ⟨(G + 1), 1, none⟩ (.int .i64 qt.wd)).setCell ⟨(G + 1), 2, none⟩ (.int .i64 qt.ht)).setCell ⟨(G + 1), 3, none⟩ (.int .i64 qt.dp)).setCell ⟨(G + 1), 4, none⟩ (.int .i64 qt.tare)).setCell ⟨(G + 1), 5, none⟩ (.int .i64 qt.gram)).setCell ⟨(G + 1), 6, none⟩ (.int .i64 qt.cost)) = writeCells u2 (G + 1) 0 [.int .i64 qt.id, .int .i64 qt.wd, .int .i64 qt.ht, .int .i64 qt.dp, .int .i64 qt.tare, .int .i64 qt.gram, .int .i64 qt.cost] := rfl
       rw [EW]
       clear EW
       have HD : Hid (RdReq (writeCells u2 (G + 1) 0 [.int .i64 qt.id, .int .i64 qt.wd, .int .i64 qt.ht, .int .i64 qt.dp, .int .i64 qt.tare, .int .i64 qt.gram, .int .i64 qt.cost]) r ⟨ap, some ⟨b, off, none⟩, ai, cp, ct, ci⟩) := rdq_write (far_lst HF2.out (by omega)) _ _ _ HD1.out
       have HBf : Hid (Below w.heap.size w (writeCells u2 (G + 1) 0 [.int .i64 qt.id, .int .i64 qt.wd, .int .i64 qt.ht, .int .i64 qt.dp, .int .i64 qt.tare, .int .i64 qt.gram, .int .i64 qt.cost])) := below_write (by omega) _ _ _ _ HB1.out
       have HRF : Hid (Rd (writeCells u2 (G + 1) 0 [.int .i64 qt.id, .int .i64 qt.wd, .int .i64 qt.ht, .int .i64 qt.dp, .int .i64 qt.tare, .int .i64 qt.gram, .int .i64 qt.cost]) (some ⟨gl, 0, none⟩) us.length us) := rd_writes (fun x hx => by cases hx; show gl ≠ G + 1; omega) _ _ _ HR1.out
       have KF : Hid (Blk (writeCells u2 (G + 1) 0 [.int .i64 qt.id, .int .i64 qt.wd, .int .i64 qt.ht, .int .i64 qt.dp, .int .i64 qt.tare, .int .i64 qt.gram, .int .i64 qt.cost]) G [.int .i64 r.way, .int .i64 r.pal.wd, .int .i64 r.pal.dp, .int .i64 r.pal.ht, .int .i64 r.pal.gram, .int .i64 r.classes, .slice ap r.pairs.length cp, .slice (some ⟨b, off, none⟩) r.types.length ct, .int .i64 r.master, .slice ai r.items.length ci]) := blk_writes (by omega) _ _ _ KG1.out
       have KFH : Hid (Blk (writeCells u2 (G + 1) 0 [.int .i64 qt.id, .int .i64 qt.wd, .int .i64 qt.ht, .int .i64 qt.dp, .int .i64 qt.tare, .int .i64 qt.gram, .int .i64 qt.cost]) (G + 1) [.int .i64 qt.id, .int .i64 qt.wd, .int .i64 qt.ht, .int .i64 qt.dp, .int .i64 qt.tare, .int .i64 qt.gram, .int .i64 qt.cost]) := Blk.fill7 KHu2.out
       have KAu3 : Hid (Blk (writeCells u2 (G + 1) 0 [.int .i64 qt.id, .int .i64 qt.wd, .int .i64 qt.ht, .int .i64 qt.dp, .int .i64 qt.tare, .int .i64 qt.gram, .int .i64 qt.cost]) A [.int .i64 r.way, .int .i64 r.pal.wd, .int .i64 r.pal.dp, .int .i64 r.pal.ht, .int .i64 r.pal.gram, .int .i64 r.classes, .slice ap r.pairs.length cp, .slice (some ⟨b, off, none⟩) r.types.length ct, .int .i64 r.master, .slice ai r.items.length ci]) := blk_writes (by omega) _ _ _ KAu2.out
       clear hHeld HD1 HB1 HR1 KG1 KAu2 KHu2
       generalize writeCells u2 (G + 1) 0 [.int .i64 qt.id, .int .i64 qt.wd, .int .i64 qt.ht, .int .i64 qt.dp, .int .i64 qt.tare, .int .i64 qt.gram, .int .i64 qt.cost] = u3 at *
       have hHeld := hSmk u3 KAu3.out
       refine hK.out _ _ (fun _ => hHeld) ?_
       clear hK K
       try simp only [Act.put, zz1, zz2, zz3, zz4, zz5, zz6]
       refine wpTo_done (by kernel_rfl) ?_ _
       refine NoPanic.normal ?_
       go_wp2_with fail
       have HF : Hid (From w.heap.size ⟨ap, some ⟨b, off, none⟩, ai, cp, ct, ci⟩) := ⟨fun x hx => by have := HF2.out.fp x hx; omega, fun x hx => by have := HF2.out.ft x hx; omega, fun x hx => by have := HF2.out.fi x hx; omega⟩
       have e0 := (KF.out 0 (by simp)).1
       have e1 := (KF.out 1 (by simp)).1
       have e2 := (KF.out 2 (by simp)).1
       have e3 := (KF.out 3 (by simp)).1
       have e4 := (KF.out 4 (by simp)).1
       have e5 := (KF.out 5 (by simp)).1
       have e6 := (KF.out 6 (by simp)).1
       have e7 := (KF.out 7 (by simp)).1
       have e8 := (KF.out 8 (by simp)).1
       have e9 := (KF.out 9 (by simp)).1
       have i0 := (KFH.out 0 (by simp)).1
       have i1 := (KFH.out 1 (by simp)).1
       have i2 := (KFH.out 2 (by simp)).1
       have i3 := (KFH.out 3 (by simp)).1
       have i4 := (KFH.out 4 (by simp)).1
       have i5 := (KFH.out 5 (by simp)).1
       have i6 := (KFH.out 6 (by simp)).1
       simp only [List.getElem?_cons_zero, List.getElem?_cons_succ] at e0 e1 e2 e3 e4 e5 e6 e7 e8 e9 i0 i1 i2 i3 i4 i5 i6
       have hml : (us.take m).length = m := by rw [List.length_take]; omega
       refine bodyPost_ret (v := .tuple #[reqVal r ⟨ap, some ⟨b, off, none⟩, ai, cp, ct, ci⟩, .slice (some ⟨gl, 0, none⟩) m cl, .agg #[.int .i64 qt.id, .int .i64 qt.wd, .int .i64 qt.ht, .int .i64 qt.dp, .int .i64 qt.tare, .int .i64 qt.gram, .int .i64 qt.cost]]) (by simp [results, Tryz.results40, go_sem, reqVal, e0, e1, e2, e3, e4, e5, e6, e7, e8, e9, i0, i1, i2, i3, i4, i5, i6]) rfl ?_
       exact ⟨r, ⟨ap, some ⟨b, off, none⟩, ai, cp, ct, ci⟩, gl, cl, us.take m, ⟨qt, by rw [hml]⟩, unhide HL, unhide HD, unhide HF, by rw [hml]; exact rd_take HRF.out m hm, by omega, unhide HBf, by omega⟩
      exact AllTo.nil
     exact AllTo.nil
    exact AllTo.nil
   refine AllTo.cons (o := _) rfl (fun K hK => ?_) ?_
   ·
    (try simp only [zz1, zz2, zz3])
    have RDu1 := hide (RD4.out.mono QDu1.out)
    have OLu1 := hide (own_later OL4.out QDu1.out)
    obtain ⟨q0, qf0, q1, qf1, q2, qf2, q3, qf3, q4, qf4, q5, qf5, q6, qf6, q7, qf7, q8, qf8, q9, qf9⟩ := Blk.cf10 KGu1.out
    go_simp
    clear q0 qf0 q1 qf1 q2 qf2 q3 qf3 q4 qf4 q5 qf5 q6 qf6 q7 qf7 q8 qf8 q9 qf9
    have EW : ((((((((((u1.setCell ⟨G, 0, none⟩ (.int .i64 r.way)).setCell ⟨G, 1, none⟩ (.int .i64 r.pal.wd)).setCell ⟨G, 2, none⟩ (.int .i64 r.pal.dp)).setCell ⟨G, 3, none⟩ (.int .i64 r.pal.ht)).setCell ⟨G, 4, none⟩ (.int .i64 r.pal.gram)).setCell ⟨G, 5, none⟩ (.int .i64 r.classes)).setCell ⟨G, 6, none⟩ (.slice ap r.pairs.length cp)).setCell ⟨G, 7, none⟩ (.slice (some ⟨b, off, none⟩) r.types.length ct)).setCell ⟨G, 8, none⟩ (.int .i64 r.master)).setCell ⟨G, 9, none⟩ (.slice ai r.items.length ci)) = writeCells u1 G 0 [.int .i64 r.way, .int .i64 r.pal.wd, .int .i64 r.pal.dp, .int .i64 r.pal.ht, .int .i64 r.pal.gram, .int .i64 r.classes, .slice ap r.pairs.length cp, .slice (some ⟨b, off, none⟩) r.types.length ct, .int .i64 r.master, .slice ai r.items.length ci] := rfl
    rw [EW]
    clear EW
    have HD1 : Hid (RdReq (writeCells u1 G 0 [.int .i64 r.way, .int .i64 r.pal.wd, .int .i64 r.pal.dp, .int .i64 r.pal.ht, .int .i64 r.pal.gram, .int .i64 r.classes, .slice ap r.pairs.length cp, .slice (some ⟨b, off, none⟩) r.types.length ct, .int .i64 r.master, .slice ai r.items.length ci]) r ⟨ap, some ⟨b, off, none⟩, ai, cp, ct, ci⟩) := rdq_write (far_lst HF2.out (by omega)) _ _ _ RDu1.out
    have HB1 : Hid (Below w.heap.size w (writeCells u1 G 0 [.int .i64 r.way, .int .i64 r.pal.wd, .int .i64 r.pal.dp, .int .i64 r.pal.ht, .int .i64 r.pal.gram, .int .i64 r.classes, .slice ap r.pairs.length cp, .slice (some ⟨b, off, none⟩) r.types.length ct, .int .i64 r.master, .slice ai r.items.length ci])) := below_write hGw _ _ _ _ Bu1.out
    have HR1 : Hid (Rd (writeCells u1 G 0 [.int .i64 r.way, .int .i64 r.pal.wd, .int .i64 r.pal.dp, .int .i64 r.pal.ht, .int .i64 r.pal.gram, .int .i64 r.classes, .slice ap r.pairs.length cp, .slice (some ⟨b, off, none⟩) r.types.length ct, .int .i64 r.master, .slice ai r.items.length ci]) (some ⟨gl, 0, none⟩) us.length us) := rd_writes (fun x hx => by cases hx; show gl ≠ G; omega) _ _ _ (Rd.of_owns OLu1.out)
    have KG1 : Hid (Blk (writeCells u1 G 0 [.int .i64 r.way, .int .i64 r.pal.wd, .int .i64 r.pal.dp, .int .i64 r.pal.ht, .int .i64 r.pal.gram, .int .i64 r.classes, .slice ap r.pairs.length cp, .slice (some ⟨b, off, none⟩) r.types.length ct, .int .i64 r.master, .slice ai r.items.length ci]) G [.int .i64 r.way, .int .i64 r.pal.wd, .int .i64 r.pal.dp, .int .i64 r.pal.ht, .int .i64 r.pal.gram, .int .i64 r.classes, .slice ap r.pairs.length cp, .slice (some ⟨b, off, none⟩) r.types.length ct, .int .i64 r.master, .slice ai r.items.length ci]) := Blk.fill10 KGu1.out
    have KHu2 : Hid (Blk (writeCells u1 G 0 [.int .i64 r.way, .int .i64 r.pal.wd, .int .i64 r.pal.dp, .int .i64 r.pal.ht, .int .i64 r.pal.gram, .int .i64 r.classes, .slice ap r.pairs.length cp, .slice (some ⟨b, off, none⟩) r.types.length ct, .int .i64 r.master, .slice ai r.items.length ci]) (G + 1) [.int .i64 0, .int .i64 0, .int .i64 0, .int .i64 0, .int .i64 0, .int .i64 0, .int .i64 0]) := blk_writes (by omega) _ _ _ KHu1.out
    have KAu2 : Hid (Blk (writeCells u1 G 0 [.int .i64 r.way, .int .i64 r.pal.wd, .int .i64 r.pal.dp, .int .i64 r.pal.ht, .int .i64 r.pal.gram, .int .i64 r.classes, .slice ap r.pairs.length cp, .slice (some ⟨b, off, none⟩) r.types.length ct, .int .i64 r.master, .slice ai r.items.length ci]) A [.int .i64 r.way, .int .i64 r.pal.wd, .int .i64 r.pal.dp, .int .i64 r.pal.ht, .int .i64 r.pal.gram, .int .i64 r.classes, .slice ap r.pairs.length cp, .slice (some ⟨b, off, none⟩) r.types.length ct, .int .i64 r.master, .slice ai r.items.length ci]) := blk_writes Nqag _ _ _ KAu1.out
    clear Bu1 KAu1 ZAu1 KGu1 ZGu1 KHu1 ZHu1 QDu1
    clear hHeld RDu1 OLu1
    generalize writeCells u1 G 0 [.int .i64 r.way, .int .i64 r.pal.wd, .int .i64 r.pal.dp, .int .i64 r.pal.ht, .int .i64 r.pal.gram, .int .i64 r.classes, .slice ap r.pairs.length cp, .slice (some ⟨b, off, none⟩) r.types.length ct, .int .i64 r.master, .slice ai r.items.length ci] = u2 at *
    have hHeld := hSmk u2 KAu2.out
    refine hK.out _ _ (fun _ => hHeld) ?_
    clear hK K
    try simp only [Act.put, zz1, zz2, zz3, zz4, zz5, zz6]
    refine wpTo_ts (i := 12) (v := ?_) rfl (by kernel_rfl) hSd (by rfl) (fun w hSw => ?_) (by assumption) ?_
    rotate_left
    · ((try dsimp only [RqC] at hSw); go_simp <;> with_reducible rfl)
    try simp only [Act.put, zz1, zz2, zz3, zz4, zz5, zz6]
    refine wpTo_ready (rs := [9]) (by kernel_rfl) (by simp) ?_
    refine AllTo.cons (o := _) rfl (fun K hK => ?_) ?_
    ·
     (try simp only [zz1, zz2, zz3])
     go_simp
     refine hK.out _ _ (fun _ => hHeld) ?_
     clear hK K
     try simp only [Act.put, zz1, zz2, zz3, zz4, zz5, zz6]
     refine wpTo_ready (rs := [10]) (by kernel_rfl) (by simp) ?_
     refine AllTo.cons (o := _) rfl (fun K hK => ?_) ?_
     ·
      (try simp only [zz1, zz2, zz3])
      have HQT := hide (HD1.out.2.1.2 Y hY)
      obtain ⟨b2, off2, hb2, hc⟩ := unhide HQT
      injection hb2 with hb2
      injection hb2 with hb3 hb4
      subst hb3
      subst hb4
      clear HQT
      generalize r.types.getD Y default = qt at hc
      have d0 : u2.cell? ⟨b, off + Y * 7, none⟩ = some (.int .i64 qt.id) := hc 0 (by omega)
      have d1 : u2.cell? ⟨b, off + Y * 7 + 1, none⟩ = some (.int .i64 qt.wd) := hc 1 (by omega)
      have d2 : u2.cell? ⟨b, off + Y * 7 + 2, none⟩ = some (.int .i64 qt.ht) := hc 2 (by omega)
      have d3 : u2.cell? ⟨b, off + Y * 7 + 3, none⟩ = some (.int .i64 qt.dp) := hc 3 (by omega)
      have d4 : u2.cell? ⟨b, off + Y * 7 + 4, none⟩ = some (.int .i64 qt.tare) := hc 4 (by omega)
      have d5 : u2.cell? ⟨b, off + Y * 7 + 5, none⟩ = some (.int .i64 qt.gram) := hc 5 (by omega)
      have d6 : u2.cell? ⟨b, off + Y * 7 + 6, none⟩ = some (.int .i64 qt.cost) := hc 6 (by omega)
      clear hc
      go_simp
      clear d0 d1 d2 d3 d4 d5 d6
      refine hK.out _ _ (fun _ => hHeld) ?_
      clear hK K
      try simp only [Act.put, zz1, zz2, zz3, zz4, zz5, zz6]
      refine wpTo_ready (rs := [13]) (by kernel_rfl) (by simp) ?_
      refine AllTo.cons (o := _) rfl (fun K hK => ?_) ?_
      ·
       (try simp only [zz1, zz2, zz3])
       obtain ⟨p0, pf0, p1, pf1, p2, pf2, p3, pf3, p4, pf4, p5, pf5, p6, pf6⟩ := Blk.cf7 KHu2.out
       go_simp
       clear p0 pf0 p1 pf1 p2 pf2 p3 pf3 p4 pf4 p5 pf5 p6 pf6
       have EW : (((((((u2.setCell ⟨(G + 1), 0, none⟩ (.int .i64 qt.id)).setCell ⟨(G + 1), 1, none⟩ (.int .i64 qt.wd)).setCell ⟨(G + 1), 2, none⟩ (.int .i64 qt.ht)).setCell ⟨(G + 1), 3, none⟩ (.int .i64 qt.dp)).setCell ⟨(G + 1), 4, none⟩ (.int .i64 qt.tare)).setCell ⟨(G + 1), 5, none⟩ (.int .i64 qt.gram)).setCell ⟨(G + 1), 6, none⟩ (.int .i64 qt.cost)) = writeCells u2 (G + 1) 0 [.int .i64 qt.id, .int .i64 qt.wd, .int .i64 qt.ht, .int .i64 qt.dp, .int .i64 qt.tare, .int .i64 qt.gram, .int .i64 qt.cost] := rfl
       rw [EW]
       clear EW
       have HD : Hid (RdReq (writeCells u2 (G + 1) 0 [.int .i64 qt.id, .int .i64 qt.wd, .int .i64 qt.ht, .int .i64 qt.dp, .int .i64 qt.tare, .int .i64 qt.gram, .int .i64 qt.cost]) r ⟨ap, some ⟨b, off, none⟩, ai, cp, ct, ci⟩) := rdq_write (far_lst HF2.out (by omega)) _ _ _ HD1.out
       have HBf : Hid (Below w.heap.size w (writeCells u2 (G + 1) 0 [.int .i64 qt.id, .int .i64 qt.wd, .int .i64 qt.ht, .int .i64 qt.dp, .int .i64 qt.tare, .int .i64 qt.gram, .int .i64 qt.cost])) := below_write (by omega) _ _ _ _ HB1.out
       have HRF : Hid (Rd (writeCells u2 (G + 1) 0 [.int .i64 qt.id, .int .i64 qt.wd, .int .i64 qt.ht, .int .i64 qt.dp, .int .i64 qt.tare, .int .i64 qt.gram, .int .i64 qt.cost]) (some ⟨gl, 0, none⟩) us.length us) := rd_writes (fun x hx => by cases hx; show gl ≠ G + 1; omega) _ _ _ HR1.out
       have KF : Hid (Blk (writeCells u2 (G + 1) 0 [.int .i64 qt.id, .int .i64 qt.wd, .int .i64 qt.ht, .int .i64 qt.dp, .int .i64 qt.tare, .int .i64 qt.gram, .int .i64 qt.cost]) G [.int .i64 r.way, .int .i64 r.pal.wd, .int .i64 r.pal.dp, .int .i64 r.pal.ht, .int .i64 r.pal.gram, .int .i64 r.classes, .slice ap r.pairs.length cp, .slice (some ⟨b, off, none⟩) r.types.length ct, .int .i64 r.master, .slice ai r.items.length ci]) := blk_writes (by omega) _ _ _ KG1.out
       have KFH : Hid (Blk (writeCells u2 (G + 1) 0 [.int .i64 qt.id, .int .i64 qt.wd, .int .i64 qt.ht, .int .i64 qt.dp, .int .i64 qt.tare, .int .i64 qt.gram, .int .i64 qt.cost]) (G + 1) [.int .i64 qt.id, .int .i64 qt.wd, .int .i64 qt.ht, .int .i64 qt.dp, .int .i64 qt.tare, .int .i64 qt.gram, .int .i64 qt.cost]) := Blk.fill7 KHu2.out
       have KAu3 : Hid (Blk (writeCells u2 (G + 1) 0 [.int .i64 qt.id, .int .i64 qt.wd, .int .i64 qt.ht, .int .i64 qt.dp, .int .i64 qt.tare, .int .i64 qt.gram, .int .i64 qt.cost]) A [.int .i64 r.way, .int .i64 r.pal.wd, .int .i64 r.pal.dp, .int .i64 r.pal.ht, .int .i64 r.pal.gram, .int .i64 r.classes, .slice ap r.pairs.length cp, .slice (some ⟨b, off, none⟩) r.types.length ct, .int .i64 r.master, .slice ai r.items.length ci]) := blk_writes (by omega) _ _ _ KAu2.out
       clear hHeld HD1 HB1 HR1 KG1 KAu2 KHu2
       generalize writeCells u2 (G + 1) 0 [.int .i64 qt.id, .int .i64 qt.wd, .int .i64 qt.ht, .int .i64 qt.dp, .int .i64 qt.tare, .int .i64 qt.gram, .int .i64 qt.cost] = u3 at *
       have hHeld := hSmk u3 KAu3.out
       refine hK.out _ _ (fun _ => hHeld) ?_
       clear hK K
       try simp only [Act.put, zz1, zz2, zz3, zz4, zz5, zz6]
       refine wpTo_done (by kernel_rfl) ?_ _
       refine NoPanic.normal ?_
       go_wp2_with fail
       have HF : Hid (From w.heap.size ⟨ap, some ⟨b, off, none⟩, ai, cp, ct, ci⟩) := ⟨fun x hx => by have := HF2.out.fp x hx; omega, fun x hx => by have := HF2.out.ft x hx; omega, fun x hx => by have := HF2.out.fi x hx; omega⟩
       have e0 := (KF.out 0 (by simp)).1
       have e1 := (KF.out 1 (by simp)).1
       have e2 := (KF.out 2 (by simp)).1
       have e3 := (KF.out 3 (by simp)).1
       have e4 := (KF.out 4 (by simp)).1
       have e5 := (KF.out 5 (by simp)).1
       have e6 := (KF.out 6 (by simp)).1
       have e7 := (KF.out 7 (by simp)).1
       have e8 := (KF.out 8 (by simp)).1
       have e9 := (KF.out 9 (by simp)).1
       have i0 := (KFH.out 0 (by simp)).1
       have i1 := (KFH.out 1 (by simp)).1
       have i2 := (KFH.out 2 (by simp)).1
       have i3 := (KFH.out 3 (by simp)).1
       have i4 := (KFH.out 4 (by simp)).1
       have i5 := (KFH.out 5 (by simp)).1
       have i6 := (KFH.out 6 (by simp)).1
       simp only [List.getElem?_cons_zero, List.getElem?_cons_succ] at e0 e1 e2 e3 e4 e5 e6 e7 e8 e9 i0 i1 i2 i3 i4 i5 i6
       have hml : (us.take m).length = m := by rw [List.length_take]; omega
       refine bodyPost_ret (v := .tuple #[reqVal r ⟨ap, some ⟨b, off, none⟩, ai, cp, ct, ci⟩, .slice (some ⟨gl, 0, none⟩) m cl, .agg #[.int .i64 qt.id, .int .i64 qt.wd, .int .i64 qt.ht, .int .i64 qt.dp, .int .i64 qt.tare, .int .i64 qt.gram, .int .i64 qt.cost]]) (by simp [results, Tryz.results40, go_sem, reqVal, e0, e1, e2, e3, e4, e5, e6, e7, e8, e9, i0, i1, i2, i3, i4, i5, i6]) rfl ?_
       exact ⟨r, ⟨ap, some ⟨b, off, none⟩, ai, cp, ct, ci⟩, gl, cl, us.take m, ⟨qt, by rw [hml]⟩, unhide HL, unhide HD, unhide HF, by rw [hml]; exact rd_take HRF.out m hm, by omega, unhide HBf, by omega⟩
      exact AllTo.nil
     exact AllTo.nil
    exact AllTo.nil
   exact AllTo.nil
  exact AllTo.nil
end Go.Proofs.YtcblpoeeembniabGreatDoor
