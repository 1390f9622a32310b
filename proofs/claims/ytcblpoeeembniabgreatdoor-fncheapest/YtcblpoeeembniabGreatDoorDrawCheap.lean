/- An order, some of its units: drawn. -/
import Derived.Test.YtcblpoeeembniabGreatDoorDrawSeven
import Derived.Test.YtcblpoeeembniabGreatDoorSpecUnitsOf
import Derived.Test.YtcblpoeeembniabGreatDoorPkK
import Derived.Deep.DeepMust
import Derived.Deep.DeepCutAuto
import Derived.Deep.RegionHeld3
namespace Go.Proofs.YtcblpoeeembniabGreatDoor
open Go Go.RowKit
set_option linter.unusedVariables false
set_option linter.unusedSimpArgs false
set_option maxRecDepth 100000 in
set_option maxHeartbeats 4000000 in
theorem drawCheapest_any (a : Option Addr) (n c : Nat) (zs : List Int) (w : World) (hr : RdB w a n zs) (hn : n ≤ 1048576) (hlt : 0 < n → ∀ x, a = some x → x.block < w.heap.size) :
 Calls Tryz.prog 15 #[.slice a n c] w fun e w' => ∃ (r : ReqV) (h : ReqH) (g cap : Nat) (us : List Int), e = .returned (.tuple #[reqVal r h, .slice (some ⟨g, 0, none⟩) us.length cap]) ∧ Loose r ∧ RdReq w' r h ∧ From w.heap.size h ∧ Rd w' (some ⟨g, 0, none⟩) us.length us ∧ us.length ≤ 12 ∧ Below w.heap.size w w' ∧ w.heap.size ≤ g := by
 have HR := hide hr
 have HLT := hide hlt
 clear hr hlt
 obtain ⟨G, hG⟩ : ∃ G, G = w.heap.size := ⟨_, rfl⟩
 have hGw : w.heap.size ≤ G := Nat.le_of_eq hG.symm
 go_enter Tryz.func15, Tryz.ntmps15
 go_wp2_with fail
 have hb0 : Below w.heap.size w (w.alloc (.cells #[.int .i64 0, .int .i64 0, .int .i64 0, .int .i64 0, .int .i64 0, .int .i64 0, .slice none 0 0, .slice none 0 0, .int .i64 0, .slice none 0 0] 41)) := ((Below.refl _ _).alloc (by simp) _)
 have hz0w : (w.alloc (.cells #[.int .i64 0, .int .i64 0, .int .i64 0, .int .i64 0, .int .i64 0, .int .i64 0, .slice none 0 0, .slice none 0 0, .int .i64 0, .slice none 0 0] 41)).heap.size = G + 1 := by rw [hG]; simp
 have hkG : Blk (w.alloc (.cells #[.int .i64 0, .int .i64 0, .int .i64 0, .int .i64 0, .int .i64 0, .int .i64 0, .slice none 0 0, .slice none 0 0, .int .i64 0, .slice none 0 0] 41)) G [.int .i64 0, .int .i64 0, .int .i64 0, .int .i64 0, .int .i64 0, .int .i64 0, .slice none 0 0, .slice none 0 0, .int .i64 0, .slice none 0 0] := by rw [hG]; exact (Blk.allocAt (w := w) [.int .i64 0, .int .i64 0, .int .i64 0, .int .i64 0, .int .i64 0, .int .i64 0, .slice none 0 0, .slice none 0 0, .int .i64 0, .slice none 0 0] (by simp))
 generalize (w.alloc (.cells #[.int .i64 0, .int .i64 0, .int .i64 0, .int .i64 0, .int .i64 0, .int .i64 0, .slice none 0 0, .slice none 0 0, .int .i64 0, .slice none 0 0] 41)) = W0 at *
 rw [← hG]
 clear hG
 refine (drawHolds_any a n c zs W0 (HR.out.mono hb0) hn (fun h0 x hx => by have := HLT.out h0 x hx; have := hb0.size; omega)).mono ?_
 rintro e w3 ⟨r, ⟨ap, ta, ai, cp, ct, ci⟩, gl, cl, us, t, rfl, hl, hrd, hfr, hru, hu5, hb3, hgl⟩
 have hf2 : From (G + 1) ⟨ap, ta, ai, cp, ct, ci⟩ := by rw [hz0w] at hfr; exact hfr
 rw [hz0w] at hgl
 have HL := hide hl
 have KG3 := hide (Blk.below hb3 (by omega) hkG)
 have B3 := hide (hb0.trans (hb3.mono hb0.size))
 have RD3 := hide hrd
 have RU3 := hide hru
 have hs3 : G + 1 ≤ w3.heap.size := by have := hb3.size; omega
 have HF2 := hide hf2
 clear hl hrd hfr hru hb3 hb0 hf2 hz0w hkG
 simp only [reqVal]
 go_upto_region 2 with fail
 have hb4 : Below w3.heap.size w3 ((w3.alloc (.cells #[.int .i64 r.way, .int .i64 r.pal.wd, .int .i64 r.pal.dp, .int .i64 r.pal.ht, .int .i64 r.pal.gram, .int .i64 r.classes, .slice ap r.pairs.length cp, .slice ta r.types.length ct, .int .i64 r.master, .slice ai r.items.length ci] 41)).alloc (.cells #[.int .i64 t.id, .int .i64 t.wd, .int .i64 t.ht, .int .i64 t.dp, .int .i64 t.tare, .int .i64 t.gram, .int .i64 t.cost] 54)) := (((Below.refl _ _).alloc (Nat.le_refl _) _).alloc (by simp) _)
 have ka4 : Blk ((w3.alloc (.cells #[.int .i64 r.way, .int .i64 r.pal.wd, .int .i64 r.pal.dp, .int .i64 r.pal.ht, .int .i64 r.pal.gram, .int .i64 r.classes, .slice ap r.pairs.length cp, .slice ta r.types.length ct, .int .i64 r.master, .slice ai r.items.length ci] 41)).alloc (.cells #[.int .i64 t.id, .int .i64 t.wd, .int .i64 t.ht, .int .i64 t.dp, .int .i64 t.tare, .int .i64 t.gram, .int .i64 t.cost] 54)) w3.heap.size [.int .i64 r.way, .int .i64 r.pal.wd, .int .i64 r.pal.dp, .int .i64 r.pal.ht, .int .i64 r.pal.gram, .int .i64 r.classes, .slice ap r.pairs.length cp, .slice ta r.types.length ct, .int .i64 r.master, .slice ai r.items.length ci] := (Blk.allocAt (w := w3) [.int .i64 r.way, .int .i64 r.pal.wd, .int .i64 r.pal.dp, .int .i64 r.pal.ht, .int .i64 r.pal.gram, .int .i64 r.classes, .slice ap r.pairs.length cp, .slice ta r.types.length ct, .int .i64 r.master, .slice ai r.items.length ci] rfl).allocOld (by simp) _
 generalize ((w3.alloc (.cells #[.int .i64 r.way, .int .i64 r.pal.wd, .int .i64 r.pal.dp, .int .i64 r.pal.ht, .int .i64 r.pal.gram, .int .i64 r.classes, .slice ap r.pairs.length cp, .slice ta r.types.length ct, .int .i64 r.master, .slice ai r.items.length ci] 41)).alloc (.cells #[.int .i64 t.id, .int .i64 t.wd, .int .i64 t.ht, .int .i64 t.dp, .int .i64 t.tare, .int .i64 t.gram, .int .i64 t.cost] 54)) = w4 at *
 have B4 := hide (B3.out.trans (hb4.mono B3.out.size))
 have KG4 := hide (Blk.below hb4 (by omega) KG3.out)
 have KA4 := hide ka4
 have RD4 := hide (RD3.out.mono hb4)
 have RU4 := hide (RU3.out.mono hb4)
 generalize w3.heap.size = A at *
 clear hb4 ka4 KG3 B3 RD3 RU3
 obtain ⟨ca0, ca1, ca2, ca3, ca4, ca5, ca6, ca7, ca8, ca9⟩ := Blk.cs10 KA4.out
 obtain ⟨q0, qf0, q1, qf1, q2, qf2, q3, qf3, q4, qf4, q5, qf5, q6, qf6, q7, qf7, q8, qf8, q9, qf9⟩ := Blk.cf10 KG4.out
 have HD : Hid (RdReq (writeCells w4 G 0 [.int .i64 r.way, .int .i64 r.pal.wd, .int .i64 r.pal.dp, .int .i64 r.pal.ht, .int .i64 r.pal.gram, .int .i64 r.classes, .slice ap r.pairs.length cp, .slice ta r.types.length ct, .int .i64 r.master, .slice ai r.items.length ci]) r ⟨ap, ta, ai, cp, ct, ci⟩) := rdq_write (far_lst HF2.out (by omega)) _ _ _ RD4.out
 have HBf : Hid (Below w.heap.size w (writeCells w4 G 0 [.int .i64 r.way, .int .i64 r.pal.wd, .int .i64 r.pal.dp, .int .i64 r.pal.ht, .int .i64 r.pal.gram, .int .i64 r.classes, .slice ap r.pairs.length cp, .slice ta r.types.length ct, .int .i64 r.master, .slice ai r.items.length ci])) := below_write hGw _ _ _ _ B4.out
 have HF : Hid (From w.heap.size ⟨ap, ta, ai, cp, ct, ci⟩) := ⟨fun x hx => by have := HF2.out.fp x hx; omega, fun x hx => by have := HF2.out.ft x hx; omega, fun x hx => by have := HF2.out.fi x hx; omega⟩
 have HRU : Hid (Rd (writeCells w4 G 0 [.int .i64 r.way, .int .i64 r.pal.wd, .int .i64 r.pal.dp, .int .i64 r.pal.ht, .int .i64 r.pal.gram, .int .i64 r.classes, .slice ap r.pairs.length cp, .slice ta r.types.length ct, .int .i64 r.master, .slice ai r.items.length ci]) (some ⟨gl, 0, none⟩) us.length us) := rd_writes (fun x hx => by cases hx; show gl ≠ G; omega) _ _ _ RU4.out
 have KF : Hid (Blk (writeCells w4 G 0 [.int .i64 r.way, .int .i64 r.pal.wd, .int .i64 r.pal.dp, .int .i64 r.pal.ht, .int .i64 r.pal.gram, .int .i64 r.classes, .slice ap r.pairs.length cp, .slice ta r.types.length ct, .int .i64 r.master, .slice ai r.items.length ci]) G [.int .i64 r.way, .int .i64 r.pal.wd, .int .i64 r.pal.dp, .int .i64 r.pal.ht, .int .i64 r.pal.gram, .int .i64 r.classes, .slice ap r.pairs.length cp, .slice ta r.types.length ct, .int .i64 r.master, .slice ai r.items.length ci]) := Blk.fill10 KG4.out
 clear KG4 KA4 RD4 RU4 B4
 go_wp2_with fail
 have EW : ((((((((((w4.setCell ⟨G, 0, none⟩ (.int .i64 r.way)).setCell ⟨G, 1, none⟩ (.int .i64 r.pal.wd)).setCell ⟨G, 2, none⟩ (.int .i64 r.pal.dp)).setCell ⟨G, 3, none⟩ (.int .i64 r.pal.ht)).setCell ⟨G, 4, none⟩ (.int .i64 r.pal.gram)).setCell ⟨G, 5, none⟩ (.int .i64 r.classes)).setCell ⟨G, 6, none⟩ (.slice ap r.pairs.length cp)).setCell ⟨G, 7, none⟩ (.slice ta r.types.length ct)).setCell ⟨G, 8, none⟩ (.int .i64 r.master)).setCell ⟨G, 9, none⟩ (.slice ai r.items.length ci)) = (writeCells w4 G 0 [.int .i64 r.way, .int .i64 r.pal.wd, .int .i64 r.pal.dp, .int .i64 r.pal.ht, .int .i64 r.pal.gram, .int .i64 r.classes, .slice ap r.pairs.length cp, .slice ta r.types.length ct, .int .i64 r.master, .slice ai r.items.length ci]) := rfl
 rw [EW]
 have e0 := (KF.out 0 (by simp)).1
 have e1 := (KF.out 1 (by simp)).1
 have e2 := (KF.out 2 (by simp)).1
 have e3 := (KF.out 3 (by simp)).1
 have e4 := (KF.out 4 (by simp)).1
 have e5 := (KF.out 5 (by simp)).1
 have e6 := (KF.out 6 (by simp)).1
 have e7 := (KF.out 7 (by simp)).1
 have e8 := (KF.out 8 (by simp)).1
 have e9 := (KF.out 9 (by simp)).1
 simp only [List.getElem?_cons_zero, List.getElem?_cons_succ] at e0 e1 e2 e3 e4 e5 e6 e7 e8 e9
 refine bodyPost_ret (v := .tuple #[reqVal r ⟨ap, ta, ai, cp, ct, ci⟩, .slice (some ⟨gl, 0, none⟩) us.length cl]) (by simp [results, Tryz.results15, go_sem, reqVal, e0, e1, e2, e3, e4, e5, e6, e7, e8, e9]) rfl ?_
 exact ⟨r, ⟨ap, ta, ai, cp, ct, ci⟩, gl, cl, us, rfl, unhide HL, unhide HD, unhide HF, unhide HRU, hu5, unhide HBf, by omega⟩
end Go.Proofs.YtcblpoeeembniabGreatDoor
