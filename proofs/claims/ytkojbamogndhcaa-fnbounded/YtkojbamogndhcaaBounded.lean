/- laws.FnBounded: within bounds nothing goes round. -/
import Derived.Test.YtkojbamogndhcaaDraw2
import Derived.Test.YtkojbamogndhcaaSpecBounds
import Derived.Test.YtkojbamogndhcaaSame
import Derived.Deep.QuietTactic
import Derived.BigQuiet
namespace Go.Proofs.Ytkojbamogndhcaa
open Go.RowKit
set_option linter.unusedVariables false
set_option linter.unusedSimpArgs false

/-- An order in a block of its own, and nothing older turned. -/
structure Bx (w1 : World) (r : ReqV) (h : ReqH) (X : World) : Prop where
  bel : Below w1.heap.size w1 X
  blk : Blk X w1.heap.size (reqCells r h)
  hz : w1.heap.size < X.heap.size
section
variable {w1 X Y : World} {r : ReqV} {h : ReqH}
theorem Bx.new (w1 : World) (r : ReqV) (h : ReqH) (t : TypeId) : Bx w1 r h (w1.alloc (.cells (reqCells r h).toArray t)) := ⟨(Below.refl _ _).alloc (Nat.le_refl _) _, Blk.allocAt _ rfl, by simp⟩
theorem Bx.below (b : Bx w1 r h X) (hb : Below X.heap.size X Y) : Bx w1 r h Y := ⟨b.bel.trans (hb.mono b.bel.size), Blk.below hb b.hz b.blk, Nat.lt_of_lt_of_le b.hz hb.size⟩
theorem Bx.alloc (b : Bx w1 r h X) (o : Obj) : Bx w1 r h (X.alloc o) := b.below ((Below.refl _ _).alloc (Nat.le_refl _) _)
theorem Bx.drewN (b : Bx w1 r h X) (m : Nat) : Bx w1 r h (X.drewN m) := b.below (below_drewN (Below.refl _ _) m)
end
theorem RdReq.write {r : ReqV} {h : ReqH} {g : Nat} (hf : Far h g) : ∀ (vs : List Value) (W : World) (p : Nat), RdReq W r h → RdReq (writeCells W g p vs) r h
  | [], _, _, s => s
  | v :: vs, _, p, s => RdReq.write hf vs _ (p + 1) (s.other hf)
theorem ok_bounds {q : ItemV} (h : q.ok = true) : 1 ≤ q.cnt ∧ q.cnt ≤ 6 ∧ 1 ≤ q.gram ∧ q.gram ≤ 100000 := by
  simp [ItemV.ok, itemB, sidesB, inB] at h
  omega
theorem mulBd {x y a b : Int} (hx : 0 ≤ x) (hx' : x ≤ a) (hy : 0 ≤ y) (hy' : y ≤ b) : 0 ≤ x * y ∧ x * y ≤ a * b :=
  ⟨Int.mul_nonneg hx hy, Int.mul_le_mul hx' hy' hy (Int.le_trans hx hx')⟩
set_option maxRecDepth 100000 in
set_option maxHeartbeats 2000000 in
theorem drawBoundsOk_any (a : Option Addr) (n c : Nat) (zs : List Int) (w : World) (hr : RdB w a n zs) (hn : n ≤ 1048576) :
    Calls Try.prog 10 #[.slice a n c] w fun e w' => ∃ r h, e = .returned (reqVal r h) ∧ Loose r ∧ RdReq w' r h ∧ Below w.heap.size w w' := by
  have HR := hide hr
  clear hr
  go_enter Try.func10, Try.ntmps10
  go_wp2_with fail
  refine (l1New_any a n c zs _ (by exact (unhide HR).mono ((Below.refl _ _).alloc (Nat.le_refl _) _)) hn ?_).mono ?_
  · intro h0 x hx
    obtain ⟨b, off, ha, hc, _⟩ := (unhide HR).2 0 h0
    rw [hx] at ha
    cases ha
    have := World.block_lt_of_cell? w _ hc
    simp at this ⊢
    omega
  rintro e w1 ⟨rfl, hc1, hb1⟩
  have HC : Hid (Cur w1 (w.heap.size + 1) a n c zs) := by have := hc1; simp only [World.size_alloc] at this; exact this
  have z1 : w.heap.size < w1.heap.size := by have := hb1.size; simp at this; omega
  have HB : Hid (Below w.heap.size w w1) := ((Below.refl w.heap.size w).alloc (Nat.le_refl _) _).trans (hb1.mono (by simp))
  have HZ : Hid (Blk w1 w.heap.size zeroReq) := Blk.below hb1 (by simp) (Blk.allocAt zeroReq rfl)
  clear hc1 hb1
  go_wp2_with fail
  refine (l2Draw_any (w.heap.size + 1) a n c zs w1 (unhide HC)).mono ?_
  rintro e w2 ⟨r, h, rfl, hl, hrd, hfr, hc2, hg2⟩
  have HL := hide hl
  have RR : Blk w2 w.heap.size zeroReq := (unhide HZ).grown hg2 z1 (by intro e; injection e with e; simp at e)
  have HBe : Hid (Below w.heap.size w w2) := (unhide HB).grown hg2 (Nat.le_of_lt z1) (by intro k hk; cases hk; simp)
  have HD : Hid (RdReq (writeCells w2 w.heap.size 0 (reqCells r h)) r h) := RdReq.write ⟨fun x hx => by have := hfr.fp x hx; omega, fun x hx => by have := hfr.ft x hx; omega, fun x hx => by have := hfr.fi x hx; omega⟩ _ _ _ hrd
  have HBf : Hid (Below w.heap.size w (writeCells w2 w.heap.size 0 (reqCells r h))) := below_write (Nat.le_refl _) _ _ _ _ (unhide HBe)
  have q0 : w2.cell? ⟨w.heap.size, 0, none⟩ = some (.int .i64 0) := (RR 0 (by simp [zeroReq])).1
  have t0 := (RR 0 (by simp [zeroReq])).2
  have q1 : w2.cell? ⟨w.heap.size, 1, none⟩ = some (.int .i64 0) := (RR 1 (by simp [zeroReq])).1
  have t1 := (RR 1 (by simp [zeroReq])).2
  have q2 : w2.cell? ⟨w.heap.size, 2, none⟩ = some (.int .i64 0) := (RR 2 (by simp [zeroReq])).1
  have t2 := (RR 2 (by simp [zeroReq])).2
  have q3 : w2.cell? ⟨w.heap.size, 3, none⟩ = some (.int .i64 0) := (RR 3 (by simp [zeroReq])).1
  have t3 := (RR 3 (by simp [zeroReq])).2
  have q4 : w2.cell? ⟨w.heap.size, 4, none⟩ = some (.int .i64 0) := (RR 4 (by simp [zeroReq])).1
  have t4 := (RR 4 (by simp [zeroReq])).2
  have q5 : w2.cell? ⟨w.heap.size, 5, none⟩ = some (.int .i64 0) := (RR 5 (by simp [zeroReq])).1
  have t5 := (RR 5 (by simp [zeroReq])).2
  have q6 : w2.cell? ⟨w.heap.size, 6, none⟩ = some (.slice none 0 0) := (RR 6 (by simp [zeroReq])).1
  have t6 := (RR 6 (by simp [zeroReq])).2
  have q7 : w2.cell? ⟨w.heap.size, 7, none⟩ = some (.slice none 0 0) := (RR 7 (by simp [zeroReq])).1
  have t7 := (RR 7 (by simp [zeroReq])).2
  have q8 : w2.cell? ⟨w.heap.size, 8, none⟩ = some (.int .i64 0) := (RR 8 (by simp [zeroReq])).1
  have t8 := (RR 8 (by simp [zeroReq])).2
  have q9 : w2.cell? ⟨w.heap.size, 9, none⟩ = some (.slice none 0 0) := (RR 9 (by simp [zeroReq])).1
  have t9 := (RR 9 (by simp [zeroReq])).2
  clear hl hrd hfr hc2 hg2 HC HB HZ RR HBe
  simp only [reqVal]
  go_wp2_with fail
  refine bodyPost_ret (v := reqVal r h) (by simp [results, Try.results10, go_sem, reqVal, q0, q1, q2, q3, q4, q5, q6, q7, q8, q9]) rfl ?_
  exact ⟨r, h, rfl, unhide HL, unhide HD, unhide HBf⟩
set_option maxRecDepth 100000 in
set_option maxHeartbeats 6400000 in
theorem law_bounded (a : Option Addr) (n c : Nat) (zs : List Int) (w : World) (hr : RdB w a n zs) (hm : n ≤ maxLen) :
    Calls Try.prog 3 #[.slice a n c] w fun e w' => e = .returned (.bool true) ∧ Below w.heap.size w w' := by
  unfold maxLen at hm
  by_cases hn : n ≤ 1048576
  case neg =>
    have hgt : (1048576 : Int) < (n : Int) := by omega
    go_enter Try.func3, Try.ntmps3
    go_wp2_with (first | (go_at_call 9; go_in) | fail)
    go_ret
    exact ⟨rfl, Below.refl _ _⟩
  have hgt : ¬ (1048576 : Int) < (n : Int) := by omega
  have HR := hide hr
  clear hr
  go_enter Try.func3, Try.ntmps3
  go_wp2_with (first | (go_at_call 9; go_in) | fail)
  refine (drawBoundsOk_any a n c zs w (unhide HR) hn).mono ?_
  rintro e w1 ⟨r, h, rfl, hl, hrd, hb1⟩
  have HRD := hide hrd
  have HB1 := hide hb1
  have HL := hide hl
  have hss := hide hl.small
  obtain ⟨lp, lt, li⟩ := hl
  have X0 := hide (Bx.new w1 r h 30)
  clear hrd hb1 HR
  simp only [reqVal]
  go_wp2_with fail
  refine (boundsOk_any r h _ (by exact (unhide HRD).mono (unhide X0).bel) (unhide hss)).mono ?_
  rintro e w2 ⟨rfl, hb2⟩
  have X2 := hide ((unhide X0).below hb2)
  obtain ⟨a0, a1, a2, a3, a4, a5, a6, a7, a8, a9⟩ := reqFacts (unhide X2).blk
  clear hb2 X0
  go_wp2_with fail
  refine (specBoundsOk_any r h _ (by exact (unhide HRD).mono (unhide X2).bel) (unhide hss)).mono ?_
  rintro e w3 ⟨rfl, hb3⟩
  have X3 := hide ((unhide X2).below hb3)
  clear a0 a1 a2 a3 a4 a5 a6 a7 a8 a9
  obtain ⟨a0, a1, a2, a3, a4, a5, a6, a7, a8, a9⟩ := reqFacts (unhide X3).blk
  clear hb3 X2
  go_wp2_with fail
  refine (requestSame_any r r h h _ (by exact (unhide HRD).mono (unhide X3).bel) (by exact (unhide HRD).mono (unhide X3).bel) (unhide hss) (unhide hss)).mono ?_
  rintro e w4 ⟨rfl, hb4⟩
  have X4 := hide ((unhide X3).below hb4)
  clear a0 a1 a2 a3 a4 a5 a6 a7 a8 a9 hb4 X3
  have hd : decide (r = r) = true := by simp
  rw [hd]
  cases hB : boundsB r
  · go_wp2_with fail
    go_ret
    exact ⟨rfl, (unhide HB1).trans ((unhide X4).bel.mono (unhide HB1).size)⟩
  have hio : r.items.all ItemV.ok = true ∧ r.items.length ≤ 8 := by simp [boundsB, itemsB] at hB; simp; exact ⟨fun x hx => hB.2.2.1 x hx, hB.2.1⟩
  have hto : r.types.all TypeV.ok = true := by simp [boundsB, typesB] at hB; simp; exact fun x hx => hB.1.1.2.2 x hx
  have hpo : palletB r.pal.wd r.pal.dp r.pal.ht r.pal.gram = true := by simp only [boundsB, Bool.and_eq_true] at hB; exact hB.1.1.1.1.1.2
  have HIO := hide hio.1
  have hi8 := hio.2
  have HTO := hide hto
  have HPO := hide hpo
  clear hio hto hpo hB hd
  go_wp2_with fail
  go_loopw [5, 6, 7] (fun u v i wr => ∃ (k : Nat) (x y : Int), k ≤ r.items.length ∧ i = .int .i64 k ∧ u = .int .i64 x ∧ v = .int .i64 y ∧ 0 ≤ x ∧ x ≤ 48000000000 * k ∧ 0 ≤ y ∧ y ≤ 600000 * k ∧ Bx w1 r h wr) (fun _ _ i _ => r.items.length - (intOf i).toNat)
  case atStart => exact ⟨0, 0, 0, Nat.zero_le _, rfl, rfl, rfl, by omega, by omega, by omega, by omega, unhide X4⟩
  case round =>
    clear X4
    obtain ⟨k, x, y, hk, rfl, rfl, rfl, hx0, hx1, hy0, hy1, hX⟩ := hrel
    have X := hide hX
    have b9 : wr.cell? ⟨w1.heap.size, 9, none⟩ = some (.slice h.ai r.items.length h.ci) := (hX.blk 9 (by simp [reqCells])).1
    have b7 : wr.cell? ⟨w1.heap.size, 7, none⟩ = some (.slice h.at' r.types.length h.ct) := (hX.blk 7 (by simp [reqCells])).1
    have hq := ((unhide HRD).mono hX.bel).2.2
    have hz := hX.hz
    clear hX
    by_cases hlt : k < r.items.length
    · obtain ⟨b, off, hap, hc⟩ := hq.2 k hlt
      have hok : (r.items.getD k default).ok = true := by
        have := unhide HIO
        rw [List.all_eq_true] at this
        refine this _ ?_
        rw [List.getD_eq_getElem?_getD, List.getElem?_eq_getElem hlt]
        exact List.getElem_mem _
      generalize r.items.getD k default = q at hc hok
      obtain ⟨c1, c2, g1, g2⟩ := ok_bounds hok
      have d0 : wr.cell? ⟨b, off + k * 7, none⟩ = some (.int .i64 q.id) := hc 0 (by omega)
      have d1 : wr.cell? ⟨b, off + k * 7 + 1, none⟩ = some (.int .i64 q.wd) := hc 1 (by omega)
      have d2 : wr.cell? ⟨b, off + k * 7 + 2, none⟩ = some (.int .i64 q.ht) := hc 2 (by omega)
      have d3 : wr.cell? ⟨b, off + k * 7 + 3, none⟩ = some (.int .i64 q.dp) := hc 3 (by omega)
      have d4 : wr.cell? ⟨b, off + k * 7 + 4, none⟩ = some (.int .i64 q.gram) := hc 4 (by omega)
      have d5 : wr.cell? ⟨b, off + k * 7 + 5, none⟩ = some (.int .i64 q.cls) := hc 5 (by omega)
      have d6 : wr.cell? ⟨b, off + k * 7 + 6, none⟩ = some (.int .i64 q.cnt) := hc 6 (by omega)
      rw [hap] at b9
      clear hc hq hap b7
      have HOK := hide hok
      clear hok
      go_wp2_with fail
      refine (itemOk_any _ _ _ _ _ _ _ _).mono ?_
      rintro e w5 ⟨rfl, hb5⟩
      have hok' : itemB q.id q.wd q.ht q.dp q.gram q.cls q.cnt = true := unhide HOK
      have X5 := hide (((unhide X).alloc (.cells (ItemV.cells q).toArray 35)).below hb5)
      have L5 : Blk w5 wr.heap.size (ItemV.cells q) := Blk.below hb5 (by simp) (Blk.allocAt _ rfl)
      obtain ⟨e0, e1, e2, e3, e4, e5, e6⟩ := itmFacts L5
      clear L5 hb5 d0 d1 d2 d3 d4 d5 d6 b9 X
      rw [hok']
      clear hok'
      obtain ⟨v0, v1⟩ := vol_bd q.wd q.ht q.dp
      obtain ⟨m0, m1⟩ := mulBd (x := q.cnt) (a := 6) (by omega) c2 v0 v1
      obtain ⟨n0, n1⟩ := mulBd (x := q.cnt) (y := q.gram) (a := 6) (b := 100000) (by omega) c2 (by omega) g2
      go_wp2_with fail
      go_quiet ((go_at_call 15; exact Calls.quiet_of_same (volume_any _ _ _ _)))
      go_wp2_with fail
      go_roundw
      case rel => exact ⟨k + 1, _, _, by omega, by go_num, rfl, rfl, by omega, by omega, by omega, by omega, (unhide X5).drewN _⟩
      case measure => simp [intOf]; omega
    · have hx2 : x < 1099511627776 := by omega
      have hy2 : y < 1099511627776 := by omega
      clear hq b7 hx1 hy1 hz
      go_wp2_with fail
      go_loopw [9] (fun i wr => ∃ (k2 : Nat), k2 ≤ r.types.length ∧ i = .int .i64 k2 ∧ Bx w1 r h wr) (fun i _ => r.types.length - (intOf i).toNat)
      case atStart => exact ⟨0, Nat.zero_le _, rfl, unhide X⟩
      case round =>
        clear X
        obtain ⟨k2, hk2, rfl, hX⟩ := hrel
        have X := hide hX
        have b7 : wr.cell? ⟨w1.heap.size, 7, none⟩ = some (.slice h.at' r.types.length h.ct) := (hX.blk 7 (by simp [reqCells])).1
        have b1 : wr.cell? ⟨w1.heap.size, 1, none⟩ = some (.int .i64 r.pal.wd) := (hX.blk 1 (by simp [reqCells])).1
        have b2 : wr.cell? ⟨w1.heap.size, 2, none⟩ = some (.int .i64 r.pal.dp) := (hX.blk 2 (by simp [reqCells])).1
        have b3 : wr.cell? ⟨w1.heap.size, 3, none⟩ = some (.int .i64 r.pal.ht) := (hX.blk 3 (by simp [reqCells])).1
        have b4 : wr.cell? ⟨w1.heap.size, 4, none⟩ = some (.int .i64 r.pal.gram) := (hX.blk 4 (by simp [reqCells])).1
        have hq := ((unhide HRD).mono hX.bel).2.1
        clear hX
        by_cases hlt2 : k2 < r.types.length
        · obtain ⟨b, off, hap, hc⟩ := hq.2 k2 hlt2
          have hok : (r.types.getD k2 default).ok = true := by
            have := unhide HTO
            rw [List.all_eq_true] at this
            refine this _ ?_
            rw [List.getD_eq_getElem?_getD, List.getElem?_eq_getElem hlt2]
            exact List.getElem_mem _
          generalize r.types.getD k2 default = q at hc hok
          have d0 : wr.cell? ⟨b, off + k2 * 7, none⟩ = some (.int .i64 q.id) := hc 0 (by omega)
          have d1 : wr.cell? ⟨b, off + k2 * 7 + 1, none⟩ = some (.int .i64 q.wd) := hc 1 (by omega)
          have d2 : wr.cell? ⟨b, off + k2 * 7 + 2, none⟩ = some (.int .i64 q.ht) := hc 2 (by omega)
          have d3 : wr.cell? ⟨b, off + k2 * 7 + 3, none⟩ = some (.int .i64 q.dp) := hc 3 (by omega)
          have d4 : wr.cell? ⟨b, off + k2 * 7 + 4, none⟩ = some (.int .i64 q.tare) := hc 4 (by omega)
          have d5 : wr.cell? ⟨b, off + k2 * 7 + 5, none⟩ = some (.int .i64 q.gram) := hc 5 (by omega)
          have d6 : wr.cell? ⟨b, off + k2 * 7 + 6, none⟩ = some (.int .i64 q.cost) := hc 6 (by omega)
          rw [hap] at b7
          have HOK := hide hok
          clear hc hq hap hok b1 b2 b3 b4
          go_wp2_with fail
          refine (typeOk_any _ _ _ _ _ _ _ _).mono ?_
          rintro e w5 ⟨rfl, hb5⟩
          have hok' : typeB q.id q.wd q.ht q.dp q.tare q.gram q.cost = true := unhide HOK
          have X5 := hide ((unhide X).below hb5)
          clear hb5 d0 d1 d2 d3 d4 d5 d6 b7 X HOK
          rw [hok']
          clear hok'
          go_wp2_with fail
          go_roundw
          case rel => exact ⟨k2 + 1, by omega, by go_num, unhide X5⟩
          case measure => simp [intOf]; omega
        · clear hq
          go_wp2_with fail
          refine (palletOk_any _ _ _ _ _).mono ?_
          rintro e w6 ⟨rfl, hb6⟩
          have X6 := hide ((unhide X).below hb6)
          clear hb6 X b1 b2 b3 b4 b7
          have hp := unhide HPO
          rw [hp]
          clear hp
          go_wp2_with fail
          go_ret
          exact ⟨rfl, (unhide HB1).trans ((unhide X6).bel.mono (unhide HB1).size)⟩
end Go.Proofs.Ytkojbamogndhcaa
