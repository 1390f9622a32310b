/- spec.l5Good, spec.DrawClass: an order drawn, mostly one of which nothing is wrong. -/
import Derived.Test.YtcblpoeeembniabGreatDoorDraw2
import Derived.Test.YtcblpoeeembniabGreatDoorPkG
import Derived.Deep.RegionHeld3
import Derived.Deep.DeepMust
namespace Go.Proofs.YtcblpoeeembniabGreatDoor
open Go.RowKit
set_option linter.unusedVariables false
set_option linter.unusedSimpArgs false

theorem newsL (W : World) (cs : List Value) (t : TypeId) : ∀ j u, cs[j]? = some u → (W.alloc (.cells cs.toArray t)).cell? ((⟨W.heap.size, 0, none⟩ : Addr).add j) = some u := by
 intro j u hj
 have hlt : j < cs.length := by
  rcases Nat.lt_or_ge j cs.length with h | h
  · exact h
  · rw [List.getElem?_eq_none h] at hj; cases hj
 have ea : (⟨W.heap.size, 0, none⟩ : Addr).add j = ⟨W.heap.size, 0 + j, none⟩ := by
  unfold Addr.add
  split
  · next h => subst h; rfl
  · rfl
 rw [ea, Nat.zero_add]
 exact ((Blk.alloc W cs t) j hlt).1.trans hj
theorem far_lst {B g : Nat} {h : ReqH} (hf : From B h) (hg : g < B) : Far h g :=
 ⟨fun x hx => by have := hf.fp x hx; omega, fun x hx => by have := hf.ft x hx; omega, fun x hx => by have := hf.fi x hx; omega⟩
theorem good_loose {r : ReqV} (h : boundsB r = true) : Loose r := by
 have := bounds_lens h
 exact ⟨by omega, by omega, by omega⟩
theorem rdq_write {r : ReqV} {h : ReqH} {g : Nat} (hf : Far h g) : ∀ (vs : List Value) (W : World) (p : Nat), RdReq W r h → RdReq (writeCells W g p vs) r h
 | [], _, _, s => s
 | v :: vs, _, p, s => rdq_write hf vs _ (p + 1) (s.other hf)
theorem cur_write {k g : Nat} {a : Option Addr} {n c : Nat} {zs : List Int} (hk : k ≠ g) (hne : 0 < n → ∀ x, a = some x → x.block ≠ g) : ∀ (vs : List Value) (W : World) (p : Nat), Cur W k a n c zs → Cur (writeCells W g p vs) k a n c zs
 | [], _, _, s => s
 | v :: vs, _, p, s => cur_write hk hne vs _ (p + 1) (s.grown (gb_set (World.grownBy.refl _ _) _ _) hk hne)
theorem gb_write {w : World} {g : Nat} {row : Option Nat} (hg : w.heap.size ≤ g) : ∀ (vs : List Value) (W : World) (p : Nat), w.grownBy W row → w.grownBy (writeCells W g p vs) row
 | [], _, _, s => s
 | v :: vs, _, p, s => gb_write hg vs _ (p + 1) (gb_setNew s hg _ _)
theorem app_item {B n g cap : Nat} {w wr w1 : World} {v' : Value} {L : List ItemV} {q : ItemV} {t : TypeId}
 (hown : wr.ownsRow B 89 7 (.slice (some ⟨g, 0, none⟩) n cap) n (L.flatMap ItemV.cells)) (hbel : Below B w wr) (hB : B ≤ wr.heap.size)
 (h1 : w1.ownsRow B 89 7 v' (n + 1) (L.flatMap ItemV.cells ++ ItemV.cells q)) (h2 : (wr.alloc (.cells #[.int .i64 q.id, .int .i64 q.wd, .int .i64 q.ht, .int .i64 q.dp, .int .i64 q.gram, .int .i64 q.cls, .int .i64 q.cnt] t)).grownBy w1 (Value.slice (some ⟨g, 0, none⟩) n cap).ownBlock)
 (h3 : v' = .slice none 0 0 ↔ Value.slice (some ⟨g, 0, none⟩) n cap = .slice none 0 0 ∧ 1 = 0) :
 ∃ g' cap', v' = .slice (some ⟨g', 0, none⟩) (n + 1) cap' ∧ w1.ownsRow B 89 7 (.slice (some ⟨g', 0, none⟩) (n + 1) cap') (n + 1) ((L ++ [q]).flatMap ItemV.cells) ∧ Below B w w1 := by
 have hne : ¬ v' = .slice none 0 0 := fun h => by have := (h3.1 h).2; omega
 obtain ⟨g', cap', rfl⟩ := own_shape h1 hne
 refine ⟨g', cap', rfl, by simpa using h1, ?_⟩
 refine (hbel.alloc hB (.cells #[.int .i64 q.id, .int .i64 q.wd, .int .i64 q.ht, .int .i64 q.dp, .int .i64 q.gram, .int .i64 q.cls, .int .i64 q.cnt] t)).grown h2 (by simp; omega) ?_
 intro j hj
 have : g = j := by simpa [Value.ownBlock] using hj
 rw [← this]
 exact own_base hown
theorem rdr_keep {α : Type} [Inhabited α] {cells : α → List Value} {k B : Nat} {w w' : World} {a : Option Addr} {n : Nat} {xs : List α} (h : RdR cells k w a n xs) (hb : Below B w w') (hlt : ∀ x, a = some x → x.block < B) : RdR cells k w' a n xs :=
 ⟨h.1, fun i hi => by
  obtain ⟨b, off, ha, hc⟩ := h.2 i hi
  exact ⟨b, off, ha, fun j hj => (hb.cell (p := ⟨b, off + i * k + j, none⟩) (show b < B from hlt ⟨b, off, none⟩ ha)).trans (hc j hj)⟩⟩
theorem cur_keep {B k : Nat} {w w' : World} {a : Option Addr} {n c : Nat} {zs : List Int} (h : Cur w k a n c zs) (hb : Below B w w') (hk : k < B) (ha : 0 < n → ∀ x, a = some x → x.block < B) : Cur w' k a n c zs := by
 obtain ⟨⟨i, hh, h1, h2, h3⟩, h4, h5, h6⟩ := h
 refine ⟨⟨i, hh, h1, h2, (hb.block k hk).trans h3⟩, ⟨h4.1, fun i hi => ?_⟩, h5, h6⟩
 obtain ⟨b, off, hx, hc, hd⟩ := h4.2 i hi
 exact ⟨b, off, hx, (hb.cell (p := ⟨b, off + i, none⟩) (show b < B from ha (by omega) ⟨b, off, none⟩ hx)).trans hc, hd⟩
theorem gb_keep {B : Nat} {w u u' : World} {row : Option Nat} (h : w.grownBy u row) (hb : Below B u u') (hB : w.heap.size ≤ B) : w.grownBy u' row :=
 ⟨hb.os.trans h.os, hb.tape.trans h.tape, hb.output.trans h.output, Nat.le_trans h.size hb.size, fun b hlt hne => (hb.block b (Nat.lt_of_lt_of_le hlt hB)).trans (h.block b hlt hne)⟩
set_option maxRecDepth 100000 in
set_option maxHeartbeats 4000000 in
theorem l5Good_any (k : Nat) (a : Option Addr) (n c : Nat) (zs : List Int) (w : World) (hc : Cur w k a n c zs) :
 Calls Tryz.prog 132 #[.pointer (some ⟨k, 0, none⟩)] w fun e w' => ∃ r h, e = .returned (reqVal r h) ∧ Loose r ∧ RdReq w' r h ∧ From w.heap.size h ∧ Cur w' k a n c zs ∧ w.grownBy w' (some k) := by
 have hkw : k < w.heap.size := by obtain ⟨_, _, _, _, h⟩ := hc.cells; exact lt_of_block h
 have HB := hide (fun hn x hx => ha_lt hc (World.grownBy.refl w none) hn x hx)
 have HC := hide hc
 clear hc
 go_enter Tryz.func132, Tryz.ntmps132
 go_wp2_with fail
 refine (l2Right_any k a n c zs _ (by exact HC.out.mono ((Below.refl _ _).alloc (Nat.le_refl _) _))).mono ?_
 rintro e w1 ⟨r, h, rfl, hok, hls, hc1, hg1⟩
 have hsz : (w.alloc (.cells #[.int .i64 0, .int .i64 0, .int .i64 0, .int .i64 0, .int .i64 0, .int .i64 0, .slice none 0 0, .slice none 0 0, .int .i64 0, .slice none 0 0] 41)).heap.size = w.heap.size + 1 := by simp
 rw [hsz] at hls
 obtain ⟨G, hG⟩ : ∃ G, G = w.heap.size := ⟨_, rfl⟩
 have KRw1 : Hid (Blk w1 G [.int .i64 0, .int .i64 0, .int .i64 0, .int .i64 0, .int .i64 0, .int .i64 0, .slice none 0 0, .slice none 0 0, .int .i64 0, .slice none 0 0]) := by rw [hG]; exact (Blk.allocAt zeroReq rfl).grown hg1 (by simp) (by intro e; injection e with e; omega)
 have zRw1 : G < w1.heap.size := by have := hg1.size; rw [hsz] at this; omega
 have GB1 : Hid (w.grownBy w1 (some k)) := by
  refine ⟨hg1.os, hg1.tape, hg1.output, by omega, fun b hb hne => ?_⟩
  exact (hg1.block b (by rw [hsz]; omega) hne).trans (Below.heap_alloc w _ b hb)
 have hfr := hls.from
 have hfo := hls.old
 have HLT : Hid ((∀ x, h.ap = some x → x.block < w1.heap.size) ∧ (∀ x, h.at' = some x → x.block < w1.heap.size) ∧ (∀ x, h.ai = some x → x.block < w1.heap.size)) := ⟨fun x hx => (own_blk hls.op x hx).2, fun x hx => (own_blk hls.ot x hx).2, fun x hx => (own_blk hls.oi x hx).2⟩
 have hrd := hls.read
 have HLO := hide (good_loose hok)
 have hsm : r.small := (good_loose hok).small
 have htl : r.types.length ≤ 1048600 := by unfold ReqV.small at hsm; omega
 have hil : r.items.length ≤ 9 := HLO.out.li
 have HCU := hide hc1
 have HFR := hide hfr
 have HFO := hide hfo
 have HNE : Hid (0 < n → ∀ x, a = some x → x.block < w.heap.size) := fun hn x hx => by have := HB.out hn x hx; simpa using this
 rw [← hG]
 have HG := hide hG
 have hkG : k < G := by omega
 have hGX : G < w1.heap.size := zRw1
 clear hok hls hc1 hg1 hfr hfo hsz hG HC HB
 simp only [reqVal]
 have Qrw1 := hide hrd
 have Qcuw1 := HCU
 clear hrd HCU
 go_wp2_with fail
 generalize hW : (w1.alloc (.cells #[.int .i64 r.way, .int .i64 r.pal.wd, .int .i64 r.pal.dp, .int .i64 r.pal.ht, .int .i64 r.pal.gram, .int .i64 r.classes, .slice h.ap r.pairs.length h.cp, .slice h.at' r.types.length h.ct, .int .i64 r.master, .slice h.ai r.items.length h.ci] 41)) = x1 at *
 obtain ⟨hb, KXx1, zXx1⟩ := en1 hW
 have hb := unhide hb
 have Hx1 : Hid (Below w1.heap.size w1 x1) := hb
 have KRx1 := hide (Blk.below hb zRw1 KRw1.out)
 have zRx1 : G < x1.heap.size := Nat.lt_of_lt_of_le zRw1 hb.size
 have Qrx1 : Hid (RdReq x1 r h) := Qrw1.out.mono hb
 have Qcux1 : Hid (Cur x1 k a n c zs) := Qcuw1.out.mono hb
 clear KRw1 zRw1 Qrw1 Qcuw1
 clear hb hW
 refine (specClass_any r h _ Qrx1.out hsm).mono ?_
 rintro e x2 ⟨rfl, hbx2⟩
 have Hx2 : Hid (Below w1.heap.size w1 x2) := Hx1.out.trans (hbx2.mono Hx1.out.size)
 have KRx2 := hide (Blk.below hbx2 zRx1 KRx1.out)
 have zRx2 : G < x2.heap.size := Nat.lt_of_lt_of_le zRx1 hbx2.size
 have KXx2 := hide (Blk.below hbx2 zXx1 KXx1.out)
 have zXx2 : w1.heap.size < x2.heap.size := Nat.lt_of_lt_of_le zXx1 hbx2.size
 have Qrx2 : Hid (RdReq x2 r h) := Qrx1.out.mono hbx2
 have Qcux2 : Hid (Cur x2 k a n c zs) := Qcux1.out.mono hbx2
 clear Hx1 KRx1 zRx1 KXx1 zXx1 Qrx1 Qcux1
 clear hbx2
 have HXB : Hid (w1.heap.size < x2.heap.size) := zXx2
 by_cases hcl : classI r = 0
 · rw [hcl]
   obtain ⟨Xx2_0, Xfx2_0, Xx2_1, Xfx2_1, Xx2_2, Xfx2_2, Xx2_3, Xfx2_3, Xx2_4, Xfx2_4, Xx2_5, Xfx2_5, Xx2_6, Xfx2_6, Xx2_7, Xfx2_7, Xx2_8, Xfx2_8, Xx2_9, Xfx2_9⟩ := Blk.cf10 KXx2.out
   obtain ⟨Rx2_0, Rfx2_0, Rx2_1, Rfx2_1, Rx2_2, Rfx2_2, Rx2_3, Rfx2_3, Rx2_4, Rfx2_4, Rx2_5, Rfx2_5, Rx2_6, Rfx2_6, Rx2_7, Rfx2_7, Rx2_8, Rfx2_8, Rx2_9, Rfx2_9⟩ := Blk.cf10 KRx2.out
   have HD : Hid (RdReq (writeCells x2 G 0 (reqCells r h)) r h) := rdq_write (far_lst HFR.out (by have := unhide HG; omega)) _ _ _ Qrx2.out
   have HCF : Hid (Cur (writeCells x2 G 0 (reqCells r h)) k a n c zs) := cur_write (by omega) (fun hn x hx => by have := HNE.out hn x hx; have := unhide HG; omega) _ _ _ Qcux2.out
   have HGF : Hid (w.grownBy (writeCells x2 G 0 (reqCells r h)) (some k)) := gb_write (by rw [← unhide HG]; exact Nat.le_refl _) _ _ _ (gb_below GB1.out Hx2.out)
   go_wp2
   refine bodyPost_ret (v := reqVal r h) (by simp [results, Tryz.results132, go_sem, reqVal, Rx2_0, Rx2_1, Rx2_2, Rx2_3, Rx2_4, Rx2_5, Rx2_6, Rx2_7, Rx2_8, Rx2_9]) rfl ?_
   exact ⟨r, h, rfl, unhide HLO, unhide HD, ⟨fun x hx => by have := HFR.out.fp x hx; omega, fun x hx => by have := HFR.out.ft x hx; omega, fun x hx => by have := HFR.out.fi x hx; omega⟩, unhide HCF, unhide HGF⟩
 have hcb : (classI r != 0) = true := by rw [bne_iff_ne]; exact hcl
 clear hcl
 obtain ⟨Xx2_0, Xfx2_0, Xx2_1, Xfx2_1, Xx2_2, Xfx2_2, Xx2_3, Xfx2_3, Xx2_4, Xfx2_4, Xx2_5, Xfx2_5, Xx2_6, Xfx2_6, Xx2_7, Xfx2_7, Xx2_8, Xfx2_8, Xx2_9, Xfx2_9⟩ := Blk.cf10 KXx2.out
 go_wp2_with fail
 clear Xx2_0 Xfx2_0 Xx2_1 Xfx2_1 Xx2_2 Xfx2_2 Xx2_3 Xfx2_3 Xx2_4 Xfx2_4 Xx2_5 Xfx2_5 Xx2_6 Xfx2_6 Xx2_7 Xfx2_7 Xx2_8 Xfx2_8 Xx2_9 Xfx2_9
 have Hx3 : Hid (Below w1.heap.size w1 ((((x2.setCell ⟨w1.heap.size, 1, none⟩ (.int .i64 30)).setCell ⟨w1.heap.size, 2, none⟩ (.int .i64 25)).setCell ⟨w1.heap.size, 3, none⟩ (.int .i64 24)).setCell ⟨w1.heap.size, 4, none⟩ (.int .i64 400))) := below_write (Nat.le_refl _) [.int .i64 30, .int .i64 25, .int .i64 24, .int .i64 400] _ _ 1 Hx2.out
 have KXx3 : Hid (Blk ((((x2.setCell ⟨w1.heap.size, 1, none⟩ (.int .i64 30)).setCell ⟨w1.heap.size, 2, none⟩ (.int .i64 25)).setCell ⟨w1.heap.size, 3, none⟩ (.int .i64 24)).setCell ⟨w1.heap.size, 4, none⟩ (.int .i64 400)) w1.heap.size [.int .i64 r.way, .int .i64 30, .int .i64 25, .int .i64 24, .int .i64 400, .int .i64 r.classes, .slice h.ap r.pairs.length h.cp, .slice h.at' r.types.length h.ct, .int .i64 r.master, .slice h.ai r.items.length h.ci]) := (((KXx2.out.set (j := 1) (v := .int .i64 30) (by simp)).set (j := 2) (v := .int .i64 25) (by simp)).set (j := 3) (v := .int .i64 24) (by simp)).set (j := 4) (v := .int .i64 400) (by simp)
 have KRx3 : Hid (Blk ((((x2.setCell ⟨w1.heap.size, 1, none⟩ (.int .i64 30)).setCell ⟨w1.heap.size, 2, none⟩ (.int .i64 25)).setCell ⟨w1.heap.size, 3, none⟩ (.int .i64 24)).setCell ⟨w1.heap.size, 4, none⟩ (.int .i64 400)) G [.int .i64 0, .int .i64 0, .int .i64 0, .int .i64 0, .int .i64 0, .int .i64 0, .slice none 0 0, .slice none 0 0, .int .i64 0, .slice none 0 0]) := (((KRx2.out.other (by omega)).other (by omega)).other (by omega)).other (by omega)
 have Qrx3 : Hid (RdReq ((((x2.setCell ⟨w1.heap.size, 1, none⟩ (.int .i64 30)).setCell ⟨w1.heap.size, 2, none⟩ (.int .i64 25)).setCell ⟨w1.heap.size, 3, none⟩ (.int .i64 24)).setCell ⟨w1.heap.size, 4, none⟩ (.int .i64 400)) ⟨r.way, ⟨30, 25, 24, 400⟩, r.classes, r.pairs, r.types, r.master, r.items⟩ h) := rdq_write HFO.out [.int .i64 30, .int .i64 25, .int .i64 24, .int .i64 400] _ 1 Qrx2.out
 have Qcux3 : Hid (Cur ((((x2.setCell ⟨w1.heap.size, 1, none⟩ (.int .i64 30)).setCell ⟨w1.heap.size, 2, none⟩ (.int .i64 25)).setCell ⟨w1.heap.size, 3, none⟩ (.int .i64 24)).setCell ⟨w1.heap.size, 4, none⟩ (.int .i64 400)) k a n c zs) := cur_write (by omega) (fun hn x hx => by have := HNE.out hn x hx; have := unhide HG; omega) [.int .i64 30, .int .i64 25, .int .i64 24, .int .i64 400] _ 1 Qcux2.out
 have zXx3 : w1.heap.size < ((((x2.setCell ⟨w1.heap.size, 1, none⟩ (.int .i64 30)).setCell ⟨w1.heap.size, 2, none⟩ (.int .i64 25)).setCell ⟨w1.heap.size, 3, none⟩ (.int .i64 24)).setCell ⟨w1.heap.size, 4, none⟩ (.int .i64 400)).heap.size := by simpa using zXx2
 have zRx3 : G < ((((x2.setCell ⟨w1.heap.size, 1, none⟩ (.int .i64 30)).setCell ⟨w1.heap.size, 2, none⟩ (.int .i64 25)).setCell ⟨w1.heap.size, 3, none⟩ (.int .i64 24)).setCell ⟨w1.heap.size, 4, none⟩ (.int .i64 400)).heap.size := by simpa using zRx2
 clear Hx2 KRx2 zRx2 KXx2 zXx2 Qrx2 Qcux2
 generalize ((((x2.setCell ⟨w1.heap.size, 1, none⟩ (.int .i64 30)).setCell ⟨w1.heap.size, 2, none⟩ (.int .i64 25)).setCell ⟨w1.heap.size, 3, none⟩ (.int .i64 24)).setCell ⟨w1.heap.size, 4, none⟩ (.int .i64 400)) = x3 at *
 refine (specMasterOf_any ⟨r.way, ⟨30, 25, 24, 400⟩, r.classes, r.pairs, r.types, r.master, r.items⟩ h _ Qrx3.out htl).mono ?_
 rintro e x4 ⟨rfl, hbx4⟩
 have Hx4 : Hid (Below w1.heap.size w1 x4) := Hx3.out.trans (hbx4.mono Hx3.out.size)
 have KRx4 := hide (Blk.below hbx4 zRx3 KRx3.out)
 have zRx4 : G < x4.heap.size := Nat.lt_of_lt_of_le zRx3 hbx4.size
 have KXx4 := hide (Blk.below hbx4 zXx3 KXx3.out)
 have zXx4 : w1.heap.size < x4.heap.size := Nat.lt_of_lt_of_le zXx3 hbx4.size
 have Qrx4 : Hid (RdReq x4 ⟨r.way, ⟨30, 25, 24, 400⟩, r.classes, r.pairs, r.types, r.master, r.items⟩ h) := Qrx3.out.mono hbx4
 have Qcux4 : Hid (Cur x4 k a n c zs) := Qcux3.out.mono hbx4
 clear Hx3 KRx3 zRx3 KXx3 zXx3 Qrx3 Qcux3
 clear hbx4
 obtain ⟨Xx4_0, Xx4_1, Xx4_2, Xx4_3, Xx4_4, Xx4_5, Xx4_6, Xx4_7, Xx4_8, Xx4_9⟩ := Blk.cs10 KXx4.out
 go_wp2
 have HX5 : Hid (w1.heap.size < x4.heap.size ∧ G < x4.heap.size) := ⟨zXx4, zRx4⟩
 clear Xx4_0 Xx4_1 Xx4_2 Xx4_3 Xx4_4 Xx4_5 Xx4_6 Xx4_7 Xx4_8 Xx4_9
 have hb : Below x4.heap.size x4 ((x4.alloc (.cells #[.int .i64 (masterV ⟨r.way, ⟨30, 25, 24, 400⟩, r.classes, r.pairs, r.types, r.master, r.items⟩).id, .int .i64 (masterV ⟨r.way, ⟨30, 25, 24, 400⟩, r.classes, r.pairs, r.types, r.master, r.items⟩).wd, .int .i64 (masterV ⟨r.way, ⟨30, 25, 24, 400⟩, r.classes, r.pairs, r.types, r.master, r.items⟩).ht, .int .i64 (masterV ⟨r.way, ⟨30, 25, 24, 400⟩, r.classes, r.pairs, r.types, r.master, r.items⟩).dp, .int .i64 (masterV ⟨r.way, ⟨30, 25, 24, 400⟩, r.classes, r.pairs, r.types, r.master, r.items⟩).tare, .int .i64 (masterV ⟨r.way, ⟨30, 25, 24, 400⟩, r.classes, r.pairs, r.types, r.master, r.items⟩).gram, .int .i64 (masterV ⟨r.way, ⟨30, 25, 24, 400⟩, r.classes, r.pairs, r.types, r.master, r.items⟩).cost] 54)).alloc (.cells #[] 89)) := ((Below.refl _ _).alloc (Nat.le_refl _) _).alloc (by simp) _
 have KMx5 : Hid (Blk ((x4.alloc (.cells #[.int .i64 (masterV ⟨r.way, ⟨30, 25, 24, 400⟩, r.classes, r.pairs, r.types, r.master, r.items⟩).id, .int .i64 (masterV ⟨r.way, ⟨30, 25, 24, 400⟩, r.classes, r.pairs, r.types, r.master, r.items⟩).wd, .int .i64 (masterV ⟨r.way, ⟨30, 25, 24, 400⟩, r.classes, r.pairs, r.types, r.master, r.items⟩).ht, .int .i64 (masterV ⟨r.way, ⟨30, 25, 24, 400⟩, r.classes, r.pairs, r.types, r.master, r.items⟩).dp, .int .i64 (masterV ⟨r.way, ⟨30, 25, 24, 400⟩, r.classes, r.pairs, r.types, r.master, r.items⟩).tare, .int .i64 (masterV ⟨r.way, ⟨30, 25, 24, 400⟩, r.classes, r.pairs, r.types, r.master, r.items⟩).gram, .int .i64 (masterV ⟨r.way, ⟨30, 25, 24, 400⟩, r.classes, r.pairs, r.types, r.master, r.items⟩).cost] 54)).alloc (.cells #[] 89)) x4.heap.size [.int .i64 (masterV ⟨r.way, ⟨30, 25, 24, 400⟩, r.classes, r.pairs, r.types, r.master, r.items⟩).id, .int .i64 (masterV ⟨r.way, ⟨30, 25, 24, 400⟩, r.classes, r.pairs, r.types, r.master, r.items⟩).wd, .int .i64 (masterV ⟨r.way, ⟨30, 25, 24, 400⟩, r.classes, r.pairs, r.types, r.master, r.items⟩).ht, .int .i64 (masterV ⟨r.way, ⟨30, 25, 24, 400⟩, r.classes, r.pairs, r.types, r.master, r.items⟩).dp, .int .i64 (masterV ⟨r.way, ⟨30, 25, 24, 400⟩, r.classes, r.pairs, r.types, r.master, r.items⟩).tare, .int .i64 (masterV ⟨r.way, ⟨30, 25, 24, 400⟩, r.classes, r.pairs, r.types, r.master, r.items⟩).gram, .int .i64 (masterV ⟨r.way, ⟨30, 25, 24, 400⟩, r.classes, r.pairs, r.types, r.master, r.items⟩).cost]) := (Blk.allocAt [.int .i64 (masterV ⟨r.way, ⟨30, 25, 24, 400⟩, r.classes, r.pairs, r.types, r.master, r.items⟩).id, .int .i64 (masterV ⟨r.way, ⟨30, 25, 24, 400⟩, r.classes, r.pairs, r.types, r.master, r.items⟩).wd, .int .i64 (masterV ⟨r.way, ⟨30, 25, 24, 400⟩, r.classes, r.pairs, r.types, r.master, r.items⟩).ht, .int .i64 (masterV ⟨r.way, ⟨30, 25, 24, 400⟩, r.classes, r.pairs, r.types, r.master, r.items⟩).dp, .int .i64 (masterV ⟨r.way, ⟨30, 25, 24, 400⟩, r.classes, r.pairs, r.types, r.master, r.items⟩).tare, .int .i64 (masterV ⟨r.way, ⟨30, 25, 24, 400⟩, r.classes, r.pairs, r.types, r.master, r.items⟩).gram, .int .i64 (masterV ⟨r.way, ⟨30, 25, 24, 400⟩, r.classes, r.pairs, r.types, r.master, r.items⟩).cost] rfl).allocOld (by simp) _
 have zMx5 : x4.heap.size < ((x4.alloc (.cells #[.int .i64 (masterV ⟨r.way, ⟨30, 25, 24, 400⟩, r.classes, r.pairs, r.types, r.master, r.items⟩).id, .int .i64 (masterV ⟨r.way, ⟨30, 25, 24, 400⟩, r.classes, r.pairs, r.types, r.master, r.items⟩).wd, .int .i64 (masterV ⟨r.way, ⟨30, 25, 24, 400⟩, r.classes, r.pairs, r.types, r.master, r.items⟩).ht, .int .i64 (masterV ⟨r.way, ⟨30, 25, 24, 400⟩, r.classes, r.pairs, r.types, r.master, r.items⟩).dp, .int .i64 (masterV ⟨r.way, ⟨30, 25, 24, 400⟩, r.classes, r.pairs, r.types, r.master, r.items⟩).tare, .int .i64 (masterV ⟨r.way, ⟨30, 25, 24, 400⟩, r.classes, r.pairs, r.types, r.master, r.items⟩).gram, .int .i64 (masterV ⟨r.way, ⟨30, 25, 24, 400⟩, r.classes, r.pairs, r.types, r.master, r.items⟩).cost] 54)).alloc (.cells #[] 89)).heap.size := by simp; omega
 have KEx5 : Hid (Blk ((x4.alloc (.cells #[.int .i64 (masterV ⟨r.way, ⟨30, 25, 24, 400⟩, r.classes, r.pairs, r.types, r.master, r.items⟩).id, .int .i64 (masterV ⟨r.way, ⟨30, 25, 24, 400⟩, r.classes, r.pairs, r.types, r.master, r.items⟩).wd, .int .i64 (masterV ⟨r.way, ⟨30, 25, 24, 400⟩, r.classes, r.pairs, r.types, r.master, r.items⟩).ht, .int .i64 (masterV ⟨r.way, ⟨30, 25, 24, 400⟩, r.classes, r.pairs, r.types, r.master, r.items⟩).dp, .int .i64 (masterV ⟨r.way, ⟨30, 25, 24, 400⟩, r.classes, r.pairs, r.types, r.master, r.items⟩).tare, .int .i64 (masterV ⟨r.way, ⟨30, 25, 24, 400⟩, r.classes, r.pairs, r.types, r.master, r.items⟩).gram, .int .i64 (masterV ⟨r.way, ⟨30, 25, 24, 400⟩, r.classes, r.pairs, r.types, r.master, r.items⟩).cost] 54)).alloc (.cells #[] 89)) (x4.heap.size + 1) []) := Blk.allocAt [] (by simp)
 have zEx5 : x4.heap.size + 1 < ((x4.alloc (.cells #[.int .i64 (masterV ⟨r.way, ⟨30, 25, 24, 400⟩, r.classes, r.pairs, r.types, r.master, r.items⟩).id, .int .i64 (masterV ⟨r.way, ⟨30, 25, 24, 400⟩, r.classes, r.pairs, r.types, r.master, r.items⟩).wd, .int .i64 (masterV ⟨r.way, ⟨30, 25, 24, 400⟩, r.classes, r.pairs, r.types, r.master, r.items⟩).ht, .int .i64 (masterV ⟨r.way, ⟨30, 25, 24, 400⟩, r.classes, r.pairs, r.types, r.master, r.items⟩).dp, .int .i64 (masterV ⟨r.way, ⟨30, 25, 24, 400⟩, r.classes, r.pairs, r.types, r.master, r.items⟩).tare, .int .i64 (masterV ⟨r.way, ⟨30, 25, 24, 400⟩, r.classes, r.pairs, r.types, r.master, r.items⟩).gram, .int .i64 (masterV ⟨r.way, ⟨30, 25, 24, 400⟩, r.classes, r.pairs, r.types, r.master, r.items⟩).cost] 54)).alloc (.cells #[] 89)).heap.size := by simp
 have OWN0 : Hid (((x4.alloc (.cells #[.int .i64 (masterV ⟨r.way, ⟨30, 25, 24, 400⟩, r.classes, r.pairs, r.types, r.master, r.items⟩).id, .int .i64 (masterV ⟨r.way, ⟨30, 25, 24, 400⟩, r.classes, r.pairs, r.types, r.master, r.items⟩).wd, .int .i64 (masterV ⟨r.way, ⟨30, 25, 24, 400⟩, r.classes, r.pairs, r.types, r.master, r.items⟩).ht, .int .i64 (masterV ⟨r.way, ⟨30, 25, 24, 400⟩, r.classes, r.pairs, r.types, r.master, r.items⟩).dp, .int .i64 (masterV ⟨r.way, ⟨30, 25, 24, 400⟩, r.classes, r.pairs, r.types, r.master, r.items⟩).tare, .int .i64 (masterV ⟨r.way, ⟨30, 25, 24, 400⟩, r.classes, r.pairs, r.types, r.master, r.items⟩).gram, .int .i64 (masterV ⟨r.way, ⟨30, 25, 24, 400⟩, r.classes, r.pairs, r.types, r.master, r.items⟩).cost] 54)).alloc (.cells #[] 89)).ownsRow (x4.heap.size + 1) 89 7 (.slice (some ⟨x4.heap.size + 1, 0, none⟩) 0 0) 0 []) := by
  have h9 := World.ownsRow_lit (base := x4.heap.size + 1) (e := 89) (size := 7) (x4.alloc (.cells #[.int .i64 (masterV ⟨r.way, ⟨30, 25, 24, 400⟩, r.classes, r.pairs, r.types, r.master, r.items⟩).id, .int .i64 (masterV ⟨r.way, ⟨30, 25, 24, 400⟩, r.classes, r.pairs, r.types, r.master, r.items⟩).wd, .int .i64 (masterV ⟨r.way, ⟨30, 25, 24, 400⟩, r.classes, r.pairs, r.types, r.master, r.items⟩).ht, .int .i64 (masterV ⟨r.way, ⟨30, 25, 24, 400⟩, r.classes, r.pairs, r.types, r.master, r.items⟩).dp, .int .i64 (masterV ⟨r.way, ⟨30, 25, 24, 400⟩, r.classes, r.pairs, r.types, r.master, r.items⟩).tare, .int .i64 (masterV ⟨r.way, ⟨30, 25, 24, 400⟩, r.classes, r.pairs, r.types, r.master, r.items⟩).gram, .int .i64 (masterV ⟨r.way, ⟨30, 25, 24, 400⟩, r.classes, r.pairs, r.types, r.master, r.items⟩).cost] 54)) #[] 0 (by simp) (Nat.zero_le _) rfl
  rw [show (x4.alloc (.cells #[.int .i64 (masterV ⟨r.way, ⟨30, 25, 24, 400⟩, r.classes, r.pairs, r.types, r.master, r.items⟩).id, .int .i64 (masterV ⟨r.way, ⟨30, 25, 24, 400⟩, r.classes, r.pairs, r.types, r.master, r.items⟩).wd, .int .i64 (masterV ⟨r.way, ⟨30, 25, 24, 400⟩, r.classes, r.pairs, r.types, r.master, r.items⟩).ht, .int .i64 (masterV ⟨r.way, ⟨30, 25, 24, 400⟩, r.classes, r.pairs, r.types, r.master, r.items⟩).dp, .int .i64 (masterV ⟨r.way, ⟨30, 25, 24, 400⟩, r.classes, r.pairs, r.types, r.master, r.items⟩).tare, .int .i64 (masterV ⟨r.way, ⟨30, 25, 24, 400⟩, r.classes, r.pairs, r.types, r.master, r.items⟩).gram, .int .i64 (masterV ⟨r.way, ⟨30, 25, 24, 400⟩, r.classes, r.pairs, r.types, r.master, r.items⟩).cost] 54)).heap.size = x4.heap.size + 1 by simp] at h9
  exact h9
 generalize ((x4.alloc (.cells #[.int .i64 (masterV ⟨r.way, ⟨30, 25, 24, 400⟩, r.classes, r.pairs, r.types, r.master, r.items⟩).id, .int .i64 (masterV ⟨r.way, ⟨30, 25, 24, 400⟩, r.classes, r.pairs, r.types, r.master, r.items⟩).wd, .int .i64 (masterV ⟨r.way, ⟨30, 25, 24, 400⟩, r.classes, r.pairs, r.types, r.master, r.items⟩).ht, .int .i64 (masterV ⟨r.way, ⟨30, 25, 24, 400⟩, r.classes, r.pairs, r.types, r.master, r.items⟩).dp, .int .i64 (masterV ⟨r.way, ⟨30, 25, 24, 400⟩, r.classes, r.pairs, r.types, r.master, r.items⟩).tare, .int .i64 (masterV ⟨r.way, ⟨30, 25, 24, 400⟩, r.classes, r.pairs, r.types, r.master, r.items⟩).gram, .int .i64 (masterV ⟨r.way, ⟨30, 25, 24, 400⟩, r.classes, r.pairs, r.types, r.master, r.items⟩).cost] 54)).alloc (.cells #[] 89)) = x5 at *
 have Hx5 : Hid (Below w1.heap.size w1 x5) := Hx4.out.trans (hb.mono Hx4.out.size)
 have KRx5 := hide (Blk.below hb zRx4 KRx4.out)
 have zRx5 : G < x5.heap.size := Nat.lt_of_lt_of_le zRx4 hb.size
 have KXx5 := hide (Blk.below hb zXx4 KXx4.out)
 have zXx5 : w1.heap.size < x5.heap.size := Nat.lt_of_lt_of_le zXx4 hb.size
 have Qrx5 : Hid (RdReq x5 ⟨r.way, ⟨30, 25, 24, 400⟩, r.classes, r.pairs, r.types, r.master, r.items⟩ h) := Qrx4.out.mono hb
 have Qcux5 : Hid (Cur x5 k a n c zs) := Qcux4.out.mono hb
 clear Hx4 KRx4 zRx4 KXx4 zXx4 Qrx4 Qcux4
 clear hb
 obtain ⟨i0, hi0, hz0, hz1, hz2⟩ := info_parts Tryz.dinfoItem
 have hxl : w1.heap.size < x4.heap.size + 1 := by have := unhide HX5; omega
 have hrl : G < x4.heap.size + 1 := by have := unhide HX5; omega
 have hbb : x4.heap.size + 1 ≤ x5.heap.size := Nat.le_of_lt zEx5
 generalize hmv : masterV ⟨r.way, ⟨30, 25, 24, 400⟩, r.classes, r.pairs, r.types, r.master, r.items⟩ = m at *
 clear hmv hcb
 go_loopw [6, 7] (fun o v wr => ∃ (i g cap : Nat) (L : List ItemV), i ≤ r.items.length ∧ v = .int .i64 (i : Int) ∧ L.length ≤ i ∧ o = .slice (some ⟨g, 0, none⟩) L.length cap ∧ wr.ownsRow (x4.heap.size + 1) 89 7 (.slice (some ⟨g, 0, none⟩) L.length cap) L.length (L.flatMap ItemV.cells) ∧ Below (x4.heap.size + 1) x5 wr) (fun _ v _ => r.items.length - (intOf v).toNat)
 case atStart => exact ⟨0, x4.heap.size + 1, 0, [], Nat.zero_le _, rfl, Nat.zero_le _, rfl, unhide OWN0, Below.refl _ _⟩
 case round =>
  obtain ⟨i, g, cap, L, hi, rfl, hLi, rfl, hown, hb⟩ := hrel
  have A1 : Blk wr w1.heap.size [.int .i64 r.way, .int .i64 30, .int .i64 25, .int .i64 24, .int .i64 400, .int .i64 r.classes, .slice h.ap r.pairs.length h.cp, .slice h.at' r.types.length h.ct, .int .i64 r.master, .slice h.ai r.items.length h.ci] := fun jj hjj => ⟨(hb.cell (p := ⟨_, _, none⟩) hxl).trans (KXx5.out jj hjj).1, (hb.frozen (p := ⟨_, _, none⟩) hxl).trans (KXx5.out jj hjj).2⟩
  have T1 : Blk wr x4.heap.size [.int .i64 m.id, .int .i64 m.wd, .int .i64 m.ht, .int .i64 m.dp, .int .i64 m.tare, .int .i64 m.gram, .int .i64 m.cost] := fun jj hjj => ⟨(hb.cell (p := ⟨_, _, none⟩) (Nat.lt_succ_self _)).trans (KMx5.out jj hjj).1, (hb.frozen (p := ⟨_, _, none⟩) (Nat.lt_succ_self _)).trans (KMx5.out jj hjj).2⟩
  have hbs := hb.size
  have HBB := hide hb
  have HOW := hide hown
  by_cases hlt : i < r.items.length
  · obtain ⟨b, off, hia, hci⟩ := Qrx5.out.2.2.2 i hlt
    (try dsimp only at hia)
    have hbl : b < x4.heap.size + 1 := by have := HLT.out.2.2 _ hia; dsimp only at this; omega
    generalize r.items.getD i default = q at hci
    have d0 : wr.cell? ⟨b, off + i * 7, none⟩ = some (.int .i64 q.id) := (hb.cell (p := ⟨b, _, none⟩) hbl).trans (hci 0 (by omega))
    have d1 : wr.cell? ⟨b, off + i * 7 + 1, none⟩ = some (.int .i64 q.wd) := (hb.cell (p := ⟨b, _, none⟩) hbl).trans (hci 1 (by omega))
    have d2 : wr.cell? ⟨b, off + i * 7 + 2, none⟩ = some (.int .i64 q.ht) := (hb.cell (p := ⟨b, _, none⟩) hbl).trans (hci 2 (by omega))
    have d3 : wr.cell? ⟨b, off + i * 7 + 3, none⟩ = some (.int .i64 q.dp) := (hb.cell (p := ⟨b, _, none⟩) hbl).trans (hci 3 (by omega))
    have d4 : wr.cell? ⟨b, off + i * 7 + 4, none⟩ = some (.int .i64 q.gram) := (hb.cell (p := ⟨b, _, none⟩) hbl).trans (hci 4 (by omega))
    have d5 : wr.cell? ⟨b, off + i * 7 + 5, none⟩ = some (.int .i64 q.cls) := (hb.cell (p := ⟨b, _, none⟩) hbl).trans (hci 5 (by omega))
    have d6 : wr.cell? ⟨b, off + i * 7 + 6, none⟩ = some (.int .i64 q.cnt) := (hb.cell (p := ⟨b, _, none⟩) hbl).trans (hci 6 (by omega))
    have a9 : wr.cell? ⟨w1.heap.size, 9, none⟩ = some (.slice h.ai r.items.length h.ci) := (A1 9 (by simp)).1
    obtain ⟨t0, t1, t2, t3, t4, t5, t6⟩ := Blk.cs7 T1
    rw [hia] at a9
    have KS : Hid (∀ w', Below wr.heap.size wr w' → (w'.cell? ⟨w1.heap.size, 9, none⟩ = some (.slice (some ⟨b, off, none⟩) r.items.length h.ci) ∧ w'.cell? ⟨b, off + i * 7, none⟩ = some (.int .i64 q.id) ∧ w'.cell? ⟨b, off + i * 7 + 1, none⟩ = some (.int .i64 q.wd) ∧ w'.cell? ⟨b, off + i * 7 + 2, none⟩ = some (.int .i64 q.ht) ∧ w'.cell? ⟨b, off + i * 7 + 3, none⟩ = some (.int .i64 q.dp) ∧ w'.cell? ⟨b, off + i * 7 + 4, none⟩ = some (.int .i64 q.gram) ∧ w'.cell? ⟨b, off + i * 7 + 5, none⟩ = some (.int .i64 q.cls) ∧ w'.cell? ⟨b, off + i * 7 + 6, none⟩ = some (.int .i64 q.cnt) ∧ w'.cell? ⟨x4.heap.size, 0, none⟩ = some (.int .i64 m.id) ∧ w'.cell? ⟨x4.heap.size, 1, none⟩ = some (.int .i64 m.wd) ∧ w'.cell? ⟨x4.heap.size, 2, none⟩ = some (.int .i64 m.ht) ∧ w'.cell? ⟨x4.heap.size, 3, none⟩ = some (.int .i64 m.dp) ∧ w'.cell? ⟨x4.heap.size, 4, none⟩ = some (.int .i64 m.tare) ∧ w'.cell? ⟨x4.heap.size, 5, none⟩ = some (.int .i64 m.gram) ∧ w'.cell? ⟨x4.heap.size, 6, none⟩ = some (.int .i64 m.cost))) := by
     intro w' hb2
     have lk : ∀ {x : Addr} {v : Value}, wr.cell? x = some v → w'.cell? x = some v := fun {x v} hx => (hb2.cell (World.block_lt_of_cell? wr _ hx)).trans hx
     exact ⟨lk a9, lk d0, lk d1, lk d2, lk d3, lk d4, lk d5, lk d6, lk t0, lk t1, lk t2, lk t3, lk t4, lk t5, lk t6⟩
    clear hci hb A1 T1 hown hia
    go_wp2
    go_region_held3 (fun w' => w'.cell? ⟨w1.heap.size, 9, none⟩ = some (.slice (some ⟨b, off, none⟩) r.items.length h.ci) ∧ w'.cell? ⟨b, off + i * 7, none⟩ = some (.int .i64 q.id) ∧ w'.cell? ⟨b, off + i * 7 + 1, none⟩ = some (.int .i64 q.wd) ∧ w'.cell? ⟨b, off + i * 7 + 2, none⟩ = some (.int .i64 q.ht) ∧ w'.cell? ⟨b, off + i * 7 + 3, none⟩ = some (.int .i64 q.dp) ∧ w'.cell? ⟨b, off + i * 7 + 4, none⟩ = some (.int .i64 q.gram) ∧ w'.cell? ⟨b, off + i * 7 + 5, none⟩ = some (.int .i64 q.cls) ∧ w'.cell? ⟨b, off + i * 7 + 6, none⟩ = some (.int .i64 q.cnt) ∧ w'.cell? ⟨x4.heap.size, 0, none⟩ = some (.int .i64 m.id) ∧ w'.cell? ⟨x4.heap.size, 1, none⟩ = some (.int .i64 m.wd) ∧ w'.cell? ⟨x4.heap.size, 2, none⟩ = some (.int .i64 m.ht) ∧ w'.cell? ⟨x4.heap.size, 3, none⟩ = some (.int .i64 m.dp) ∧ w'.cell? ⟨x4.heap.size, 4, none⟩ = some (.int .i64 m.tare) ∧ w'.cell? ⟨x4.heap.size, 5, none⟩ = some (.int .i64 m.gram) ∧ w'.cell? ⟨x4.heap.size, 6, none⟩ = some (.int .i64 m.cost)) (first | exact KS.out _ (Below.refl _ _).drew | exact KS.out _ B9.out) ((go_at_call 52; go_must (refine (specFits_any q m _).mono ?_; rintro e w9 ⟨rfl, hb9⟩; have B9 : Hid (Below wr.heap.size wr w9) := bw_call (W := wr) (by exact (Below.refl _ _).drew) hb9; clear hb9)))
    have hs9 := B9.out.size
    have HB9 : Hid (Below (x4.heap.size + 1) x5 w9) := HBB.out.trans (B9.out.mono (by omega))
    have HO9 := hide (own_later HOW.out B9.out)
    obtain ⟨e9, e0, e1, e2, e3, e4, e5, e6, f0, f1, f2, f3, f4, f5, f6⟩ := KS.out _ B9.out
    clear KS HBB HOW B9 a9 d0 d1 d2 d3 d4 d5 d6 t0 t1 t2 t3 t4 t5 t6
    cases hf : fitsB q m
    · go_wp2
      go_roundw
      case rel => exact ⟨i + 1, g, cap, L, by omega, by go_num, by omega, rfl, unhide HO9, unhide HB9⟩
      case measure => simp [intOf]; omega
    · go_wp2_with (first
       | (at_builtin; refine wpList_append_own _ rfl _ _ 39 rfl (x4.heap.size + 1) 89 i0 (.agg #[.int .i64 0, .int .i64 0, .int .i64 0, .int .i64 0, .int .i64 0, .int .i64 0, .int .i64 0]) 7 56 Tryz.underlying39 hi0 hz0 hz1 hz2 rfl (by decide) (.slice (some ⟨g, 0, none⟩) L.length cap) L.length (L.flatMap ItemV.cells) rfl (HO9.out.alloc _) ⟨w9.heap.size, 0, none⟩ 1 1 [.int .i64 q.id, .int .i64 q.wd, .int .i64 q.ht, .int .i64 q.dp, .int .i64 q.gram, .int .i64 q.cls, .int .i64 q.cnt] rfl rfl (newsL _ _ _) (by simp [Value.oneCell']) (by unfold maxLen; omega) (by omega) (by simp; omega) ?_; intro v' w10 h1 h2 h3)
       | go_in)
      obtain ⟨g', cap', hv, ho, hb⟩ := app_item HO9.out HB9.out (by omega) h1 h2 h3
      go_roundw
      case rel => exact ⟨i + 1, g', cap', L ++ [q], by omega, by go_num, by simp; omega, by rw [hv]; simp, by simpa using ho, hb⟩
      case measure => simp [intOf]; omega
  · have R1 : Blk wr G [.int .i64 0, .int .i64 0, .int .i64 0, .int .i64 0, .int .i64 0, .int .i64 0, .slice none 0 0, .slice none 0 0, .int .i64 0, .slice none 0 0] := fun jj hjj => ⟨(hb.cell (p := ⟨_, _, none⟩) hrl).trans (KRx5.out jj hjj).1, (hb.frozen (p := ⟨_, _, none⟩) hrl).trans (KRx5.out jj hjj).2⟩
    obtain ⟨a0, af0, a1, af1, a2, af2, a3, af3, a4, af4, a5, af5, a6, af6, a7, af7, a8, af8, a9, af9⟩ := Blk.cf10 A1
    obtain ⟨p0, pf0, p1, pf1, p2, pf2, p3, pf3, p4, pf4, p5, pf5, p6, pf6, p7, pf7, p8, pf8, p9, pf9⟩ := Blk.cf10 R1
    have hgb : (x4.heap.size + 1) ≤ g := own_base hown
    have hx5 := HX5.out.1
    have hgw : w.heap.size = G := HG.out.symm
    have RQw : RdReq wr ⟨r.way, ⟨30, 25, 24, 400⟩, r.classes, r.pairs, r.types, r.master, L⟩ ⟨h.ap, h.at', some ⟨g, 0, none⟩, h.cp, h.ct, cap⟩ := ⟨rdr_keep Qrx5.out.1 hb (fun x hx => by have := HLT.out.1 x hx; omega), rdr_keep Qrx5.out.2.1 hb (fun x hx => by have := HLT.out.2.1 x hx; omega), RdR.of_flat ItemV.len hown⟩
    have farX : Far ⟨h.ap, h.at', some ⟨g, 0, none⟩, h.cp, h.ct, cap⟩ w1.heap.size := ⟨HFO.out.1, HFO.out.2.1, fun x hx => by cases hx; dsimp only; omega⟩
    have farG : Far ⟨h.ap, h.at', some ⟨g, 0, none⟩, h.cp, h.ct, cap⟩ G := ⟨fun x hx => by have := HFR.out.fp x hx; omega, fun x hx => by have := HFR.out.ft x hx; omega, fun x hx => by cases hx; dsimp only; omega⟩
    have CUw : Cur wr k a n c zs := cur_keep Qcux5.out hb (by omega) (fun hn x hx => by have := HNE.out hn x hx; omega)
    have GBw : w.grownBy wr (some k) := gb_keep (gb_below GB1.out Hx5.out) hb (by omega)
    have HD : Hid (RdReq (writeCells (wr.setCell ⟨w1.heap.size, 9, none⟩ (.slice (some ⟨g, 0, none⟩) L.length cap)) G 0 (reqCells ⟨r.way, ⟨30, 25, 24, 400⟩, r.classes, r.pairs, r.types, r.master, L⟩ ⟨h.ap, h.at', some ⟨g, 0, none⟩, h.cp, h.ct, cap⟩)) ⟨r.way, ⟨30, 25, 24, 400⟩, r.classes, r.pairs, r.types, r.master, L⟩ ⟨h.ap, h.at', some ⟨g, 0, none⟩, h.cp, h.ct, cap⟩) := rdq_write farG _ _ _ (RQw.other farX)
    have HCF : Hid (Cur (writeCells (wr.setCell ⟨w1.heap.size, 9, none⟩ (.slice (some ⟨g, 0, none⟩) L.length cap)) G 0 (reqCells ⟨r.way, ⟨30, 25, 24, 400⟩, r.classes, r.pairs, r.types, r.master, L⟩ ⟨h.ap, h.at', some ⟨g, 0, none⟩, h.cp, h.ct, cap⟩)) k a n c zs) := cur_write (by omega) (fun hn x hx => by have := HNE.out hn x hx; omega) _ _ _ (cur_write (by omega) (fun hn x hx => by have := HNE.out hn x hx; omega) [.slice (some ⟨g, 0, none⟩) L.length cap] _ 9 CUw)
    have HGF : Hid (w.grownBy (writeCells (wr.setCell ⟨w1.heap.size, 9, none⟩ (.slice (some ⟨g, 0, none⟩) L.length cap)) G 0 (reqCells ⟨r.way, ⟨30, 25, 24, 400⟩, r.classes, r.pairs, r.types, r.master, L⟩ ⟨h.ap, h.at', some ⟨g, 0, none⟩, h.cp, h.ct, cap⟩)) (some k)) := gb_write (by omega) _ _ _ (gb_setNew GBw (by omega) _ _)
    have HLN : Hid (Loose ⟨r.way, ⟨30, 25, 24, 400⟩, r.classes, r.pairs, r.types, r.master, L⟩) := ⟨HLO.out.lp, HLO.out.lt, by have := HLO.out.li; show L.length ≤ 9; omega⟩
    have HFN : Hid (From w.heap.size ⟨h.ap, h.at', some ⟨g, 0, none⟩, h.cp, h.ct, cap⟩) := ⟨fun x hx => by have := HFR.out.fp x hx; omega, fun x hx => by have := HFR.out.ft x hx; omega, fun x hx => by cases hx; dsimp only; omega⟩
    clear RQw farX farG CUw GBw hown hb A1 T1 R1 HBB HOW hgw
    go_wp2
    refine bodyPost_ret (v := reqVal ⟨r.way, ⟨30, 25, 24, 400⟩, r.classes, r.pairs, r.types, r.master, L⟩ ⟨h.ap, h.at', some ⟨g, 0, none⟩, h.cp, h.ct, cap⟩) (by simp [results, Tryz.results132, go_sem, reqVal, p0, p1, p2, p3, p4, p5, p6, p7, p8, p9]) rfl ?_
    exact ⟨_, _, rfl, unhide HLN, unhide HD, unhide HFN, unhide HCF, unhide HGF⟩
end Go.Proofs.YtcblpoeeembniabGreatDoor
