/- spec.DrawClass: an order drawn, mostly one of which nothing is wrong. -/
import Derived.Test.YtcblpoeeembniabGreatDoorGood
namespace Go.Proofs.YtcblpoeeembniabGreatDoor
open Go.RowKit
set_option linter.unusedVariables false
set_option linter.unusedSimpArgs false
set_option maxRecDepth 100000 in
set_option maxHeartbeats 2000000 in
theorem drawClass_any (a : Option Addr) (n c : Nat) (zs : List Int) (w : World) (hr : RdB w a n zs) (hn : n ≤ 1048576) :
 Calls Tryz.prog 118 #[.slice a n c] w fun e w' => ∃ r h, e = .returned (reqVal r h) ∧ Loose r ∧ RdReq w' r h ∧ From w.heap.size h ∧ Below w.heap.size w w' := by
 have HR := hide hr
 clear hr
 obtain ⟨G, hG⟩ : ∃ G, G = w.heap.size := ⟨_, rfl⟩
 have HG := hide hG
 go_enter Tryz.func118, Tryz.ntmps118
 go_wp2_with fail
 refine (l1New_any a n c zs _ (by exact HR.out.mono ((Below.refl _ _).alloc (Nat.le_refl _) _)) hn ?_).mono ?_
 · intro h0 x hx
   obtain ⟨b, off, ha, hc, _⟩ := HR.out.2 0 h0
   rw [hx] at ha
   cases ha
   have := World.block_lt_of_cell? w _ hc
   simp at this ⊢
   omega
 rintro e w1 ⟨rfl, hc1, hb1⟩
 have HC : Hid (Cur w1 (G + 1) a n c zs) := by have := hc1; simp only [World.size_alloc] at this; rw [hG]; exact this
 have z1 : G < w1.heap.size := by have := hb1.size; simp at this; omega
 have HB : Hid (Below w.heap.size w w1) := ((Below.refl w.heap.size w).alloc (Nat.le_refl _) _).trans (hb1.mono (by simp))
 have HZ : Hid (Blk w1 G [.int .i64 0, .int .i64 0, .int .i64 0, .int .i64 0, .int .i64 0, .int .i64 0, .slice none 0 0, .slice none 0 0, .int .i64 0, .slice none 0 0]) := by rw [hG]; exact Blk.below hb1 (by simp) (Blk.allocAt zeroReq rfl)
 have hsz : (w.alloc (.cells #[.int .i64 0, .int .i64 0, .int .i64 0, .int .i64 0, .int .i64 0, .int .i64 0, .slice none 0 0, .slice none 0 0, .int .i64 0, .slice none 0 0] 41)).heap.size = G + 1 := by rw [hG]; simp
 rw [hsz, ← hG]
 have hgw : w.heap.size ≤ G := Nat.le_of_eq hG.symm
 clear hc1 hb1 hsz hG
 go_wp2_with fail
 refine (l1Once_any (G + 1) a n c zs 2 w1 HC.out (by omega) (by omega)).mono ?_
 rintro e w2 ⟨b, rfl, hc2, hg2⟩
 have HC2 := hide hc2
 have z2 : G < w2.heap.size := Nat.lt_of_lt_of_le z1 hg2.size
 have HZ2 := hide (HZ.out.grown hg2 z1 (by intro e; injection e with e; omega))
 have HB2 := hide (HB.out.grown hg2 (by have := HB.out.size; exact this) (by intro k hk; cases hk; omega))
 clear hc2 hg2 HC HZ HB
 cases b
 case false =>
  go_wp2_with fail
  refine (l2Draw_any (G + 1) a n c zs w2 HC2.out).mono ?_
  rintro e w3 ⟨r, h, rfl, hl, hrd, hfr, hc3, hg3⟩
  have hf2 : From w2.heap.size h := ⟨fun x hx => by have := hfr.fp x hx; omega, fun x hx => by have := hfr.ft x hx; omega, fun x hx => by have := hfr.fi x hx; omega⟩
  have HL := hide hl
  have RR : Blk w3 G [.int .i64 0, .int .i64 0, .int .i64 0, .int .i64 0, .int .i64 0, .int .i64 0, .slice none 0 0, .slice none 0 0, .int .i64 0, .slice none 0 0] := HZ2.out.grown hg3 z2 (by intro e; injection e with e; omega)
  have HB3 : Hid (Below w.heap.size w w3) := HB2.out.grown hg3 (by have := HB2.out.size; exact this) (by intro k hk; cases hk; omega)
  have HD : Hid (RdReq (writeCells w3 G 0 (reqCells r h)) r h) := rdq_write (far_lst hf2 z2) _ _ _ hrd
  have HBf : Hid (Below w.heap.size w (writeCells w3 G 0 (reqCells r h))) := below_write hgw _ _ _ _ HB3.out
  have HF : Hid (From w.heap.size h) := ⟨fun x hx => by have := hf2.fp x hx; omega, fun x hx => by have := hf2.ft x hx; omega, fun x hx => by have := hf2.fi x hx; omega⟩
  obtain ⟨q0, t0, q1, t1, q2, t2, q3, t3, q4, t4, q5, t5, q6, t6, q7, t7, q8, t8, q9, t9⟩ := Blk.cf10 RR
  clear hl hrd hf2 hc3 hg3 HC2 HZ2 HB2 RR HB3
  (try clear hfr)
  simp only [reqVal]
  go_wp2_with fail
  refine bodyPost_ret (v := reqVal r h) (by simp [results, Tryz.results118, go_sem, reqVal, q0, q1, q2, q3, q4, q5, q6, q7, q8, q9]) rfl ?_
  exact ⟨r, h, rfl, unhide HL, unhide HD, unhide HF, unhide HBf⟩
 case true =>
  go_wp2_with fail
  refine (l5Good_any (G + 1) a n c zs w2 HC2.out).mono ?_
  rintro e w3 ⟨r, h, rfl, hl, hrd, hf2, hc3, hg3⟩
  have HL := hide hl
  have RR : Blk w3 G [.int .i64 0, .int .i64 0, .int .i64 0, .int .i64 0, .int .i64 0, .int .i64 0, .slice none 0 0, .slice none 0 0, .int .i64 0, .slice none 0 0] := HZ2.out.grown hg3 z2 (by intro e; injection e with e; omega)
  have HB3 : Hid (Below w.heap.size w w3) := HB2.out.grown hg3 (by have := HB2.out.size; exact this) (by intro k hk; cases hk; omega)
  have HD : Hid (RdReq (writeCells w3 G 0 (reqCells r h)) r h) := rdq_write (far_lst hf2 z2) _ _ _ hrd
  have HBf : Hid (Below w.heap.size w (writeCells w3 G 0 (reqCells r h))) := below_write hgw _ _ _ _ HB3.out
  have HF : Hid (From w.heap.size h) := ⟨fun x hx => by have := hf2.fp x hx; omega, fun x hx => by have := hf2.ft x hx; omega, fun x hx => by have := hf2.fi x hx; omega⟩
  obtain ⟨q0, t0, q1, t1, q2, t2, q3, t3, q4, t4, q5, t5, q6, t6, q7, t7, q8, t8, q9, t9⟩ := Blk.cf10 RR
  clear hl hrd hf2 hc3 hg3 HC2 HZ2 HB2 RR HB3
  (try clear hfr)
  simp only [reqVal]
  go_wp2_with fail
  refine bodyPost_ret (v := reqVal r h) (by simp [results, Tryz.results118, go_sem, reqVal, q0, q1, q2, q3, q4, q5, q6, q7, q8, q9]) rfl ?_
  exact ⟨r, h, rfl, unhide HL, unhide HD, unhide HF, unhide HBf⟩
end Go.Proofs.YtcblpoeeembniabGreatDoor
