/- A pallet and boxes for it: drawn. -/
import Derived.Test.YtcblpoeeembniaaDraw
import Derived.Test.YtcblpoeeembniaaDrawKeys
import Derived.Test.YtcblpoeeembniaaStructs
import Derived.Test.YtcblpoeeembniaaToS
import Derived.Test.YtcblpoeeembniaaBw
import Derived.Deep.AppendLies
namespace Go.Proofs.Ytcblpoeeembniaa
open Go Go.RowKit
set_option linter.unusedVariables false
set_option linter.unusedSimpArgs false
theorem ltAllocB {w : World} {b : Nat} (h : b < w.heap.size) (o : Obj) : b < (w.alloc o).heap.size := by simp; omega
theorem blkGrownB {w w' : World} {g : Nat} {cs : List Value} {row : Option Nat} (h : Blk w g cs) (hg : w.grownBy w' row) (hlt : g < w.heap.size) (hne : some g ≠ row) : Blk w' g cs :=
 fun j hj => ⟨(World.cell?_of_block (w := w) (a := ⟨g, j, none⟩) (hg.block g hlt hne)).trans (h j hj).1, (World.frozen?_of_block (w := w) (a := ⟨g, j, none⟩) (hg.block g hlt hne)).trans (h j hj).2⟩
theorem curGrownB {w w' : World} {k : Nat} {a : Option Addr} {n c : Nat} {zs : List Int} {row : Option Nat} (h : Cur w k a n c zs) (hg : w.grownBy w' row) (hk : some k ≠ row) (hne : 0 < n → ∀ x, a = some x → some x.block ≠ row) : Cur w' k a n c zs := by
 obtain ⟨⟨i, hh, h1, h2, h3⟩, h4, h5, h6⟩ := h
 refine ⟨⟨i, hh, h1, h2, (hg.block k (lt_of_block h3) hk).trans h3⟩, ⟨h4.1, fun i hi => ?_⟩, h5, h6⟩
 obtain ⟨b, off, ha, hc, h1⟩ := h4.2 i hi
 exact ⟨b, off, ha, hg.cell hc (by have := hne (by omega) _ ha; simpa using this), h1⟩
theorem gbAnyB {w w' w1 : World} {row row' : Option Nat} (h : w.grownBy w' row) (h' : w'.grownBy w1 row') (hg : ∀ g, row' = some g → w.heap.size ≤ g) : w.grownBy w1 row :=
 ⟨h'.os.trans h.os, h'.tape.trans h.tape, h'.output.trans h.output, Nat.le_trans h.size h'.size, fun k hk hne => (h'.block k (Nat.lt_of_lt_of_le hk h.size) (fun e => by have := hg k e.symm; omega)).trans (h.block k hk hne)⟩
/-- Boxes that are being drawn: the cursor at k, the boxes in a row of their own; two blocks more stand by. -/
structure Bxs (w : World) (k : Nat) (a : Option Addr) (n c : Nat) (zs : List Int) (g cap N : Nat) (L : List Value) (R : Nat) (cs : List Value) (Q : Nat) (ds : List Value) (wr : World) : Prop where
 cur : Cur wr k a n c zs
 gb : w.grownBy wr (some k)
 own : wr.ownsRow w.heap.size 52 4 (.slice (some ⟨g, 0, none⟩) N cap) N L
 hk : k < w.heap.size
 hb : 0 < n → ∀ x, a = some x → x.block < w.heap.size
 rb : Blk wr R cs ∧ R < wr.heap.size ∧ w.heap.size ≤ R ∧ R ≠ g
 qb : Blk wr Q ds ∧ Q < wr.heap.size ∧ w.heap.size ≤ Q ∧ Q ≠ g
 ne : R ≠ Q
section
variable {w : World} {k : Nat} {a : Option Addr} {n c : Nat} {zs : List Int} {g cap N : Nat} {L : List Value} {R Q : Nat} {cs ds : List Value} {wr w' : World}
theorem Bxs.call (s : Bxs w k a n c zs g cap N L R cs Q ds wr) (hg : wr.grownBy w' (some k)) (hc : Cur w' k a n c zs) : Bxs w k a n c zs g cap N L R cs Q ds w' :=
 ⟨hc, gb_same s.gb hg, s.own.kept hg (Or.inr (by have := own_base s.own; have := s.hk; intro e; simp [Value.ownBlock] at e; omega)), s.hk, s.hb,
  ⟨s.rb.1.gb hg s.rb.2.1 (by have := s.hk; have := s.rb.2.2.1; omega), Nat.lt_of_lt_of_le s.rb.2.1 hg.size, s.rb.2.2⟩, ⟨s.qb.1.gb hg s.qb.2.1 (by have := s.hk; have := s.qb.2.2.1; omega), Nat.lt_of_lt_of_le s.qb.2.1 hg.size, s.qb.2.2⟩, s.ne⟩
theorem Bxs.alloc (s : Bxs w k a n c zs g cap N L R cs Q ds wr) (ob : Obj) : Bxs w k a n c zs g cap N L R cs Q ds (wr.alloc ob) :=
 ⟨s.cur.mono ((Below.refl _ _).alloc (Nat.le_refl _) _), gbAnyB s.gb (World.grownBy_alloc wr ob none) (fun b h => by cases h), s.own.alloc ob, s.hk, s.hb,
  ⟨s.rb.1.allocOld s.rb.2.1 ob, ltAllocB s.rb.2.1 ob, s.rb.2.2⟩, ⟨s.qb.1.allocOld s.qb.2.1 ob, ltAllocB s.qb.2.1 ob, s.qb.2.2⟩, s.ne⟩
theorem Bxs.app (s : Bxs w k a n c zs g cap N L R cs Q ds wr) {g' cap' N' : Nat} {L' : List Value} (ho : w'.ownsRow w.heap.size 52 4 (.slice (some ⟨g', 0, none⟩) N' cap') N' L') (hg : wr.grownBy w' (some g)) (hat : some g = some g' ∨ g' = wr.heap.size) : Bxs w k a n c zs g' cap' N' L' R cs Q ds w' := by
 have h1 := own_base s.own
 have h2 := s.hk
 have hn : ∀ b, b < wr.heap.size → b ≠ g → b ≠ g' := fun b hb hne x => by
  rcases hat with y | y
  · injection y with y; exact hne (x.trans y.symm)
  · omega
 exact ⟨curGrownB s.cur hg (by intro e; injection e with e; omega) (fun h0 x hx e => by have := s.hb h0 x hx; injection e with e; omega), gbAnyB s.gb hg (fun b e => by injection e with e; omega), ho, h2, s.hb,
  ⟨blkGrownB s.rb.1 hg s.rb.2.1 (by intro e; injection e with e; exact s.rb.2.2.2 e), Nat.lt_of_lt_of_le s.rb.2.1 hg.size, s.rb.2.2.1, hn _ s.rb.2.1 s.rb.2.2.2⟩,
  ⟨blkGrownB s.qb.1 hg s.qb.2.1 (by intro e; injection e with e; exact s.qb.2.2.2 e), Nat.lt_of_lt_of_le s.qb.2.1 hg.size, s.qb.2.2.1, hn _ s.qb.2.1 s.qb.2.2.2⟩, s.ne⟩
/-- A cell of the row is written. -/
theorem Bxs.put (s : Bxs w k a n c zs g cap N L R cs Q ds wr) (j : Nat) (v : Value) : Bxs w k a n c zs g cap N (L.set j v) R cs Q ds (wr.setCell ⟨g, j, none⟩ v) := by
 have hst := s.own.stored j v
 exact s.app hst.1 (gb_set (World.grownBy.refl wr (some g)) j v) (.inl rfl)
/-- A cell of the pallet is written. -/
theorem Bxs.pal (s : Bxs w k a n c zs g cap N L R cs Q ds wr) (j : Nat) (hj : j < cs.length) (v : Value) : Bxs w k a n c zs g cap N L R (cs.set j v) Q ds (wr.setCell ⟨R, j, none⟩ v) := by
 have hg := gb_set (World.grownBy.refl wr (some R)) j v
 have h1 := s.rb.2.2.1
 have h2 := s.hk
 exact ⟨curGrownB s.cur hg (by intro e; injection e with e; omega) (fun h0 x hx e => by have := s.hb h0 x hx; injection e with e; omega), gbAnyB s.gb hg (fun b e => by injection e with e; omega),
  s.own.kept hg (Or.inr (by intro e; simp [Value.ownBlock] at e; exact s.rb.2.2.2 e.symm)), h2, s.hb, ⟨s.rb.1.set hj, by simpa using s.rb.2.1, h1, s.rb.2.2.2⟩, ⟨s.qb.1.other (Ne.symm s.ne), by simpa using s.qb.2.1, s.qb.2.2.1, s.qb.2.2.2⟩, s.ne⟩
end
theorem flatAtB : ∀ (bs : List BoxV) (i : Nat), i < bs.length → ∀ j, j < 4 → (bs.flatMap BoxV.cells)[i * 4 + j]? = (BoxV.cells (bs.getD i default))[j]?
 | [], i, h, _, _ => absurd h (Nat.not_lt_zero _)
 | b :: bs, 0, _, j, hj => by
  rw [List.flatMap_cons, Nat.zero_mul, Nat.zero_add, List.getElem?_append_left (by rw [BoxV.len]; exact hj)]
  rfl
 | b :: bs, i + 1, h, j, hj => by
  rw [List.flatMap_cons, List.getElem?_append_right (by rw [BoxV.len]; omega), BoxV.len, show (i + 1) * 4 + j - 4 = i * 4 + j by omega, flatAtB bs i (by simpa using h) j hj]
  rfl
theorem rdInts3 {w : World} {u : Nat} {ls : List Int} {t : TypeId} (h : Blk w u (ls.map (Value.int .i64))) : Rd w (some ⟨u, 0, none⟩) ls.length ls :=
 ⟨rfl, fun i hi => ⟨u, 0, rfl, by rw [Nat.zero_add, (h i (by simpa using hi)).1]; simp [hi]⟩⟩
set_option maxRecDepth 100000 in
set_option maxHeartbeats 8000000 in
theorem l10Boxes_any (k : Nat) (a : Option Addr) (n c : Nat) (zs : List Int) (w : World) (hc : Cur w k a n c zs) :
 Calls Try.prog 49 #[.pointer (some ⟨k, 0, none⟩)] w fun e w' => ∃ (p : PalletV) (g cap : Nat) (bs : List BoxV), e = .returned (.tuple #[.agg #[.int .i64 p.wd, .int .i64 p.dp, .int .i64 p.ht, .int .i64 p.gram], .slice (some ⟨g, 0, none⟩) bs.length cap]) ∧ bs.length ≤ 12 ∧ RdR BoxV.cells 4 w' (some ⟨g, 0, none⟩) bs.length bs ∧ w.grownBy w' (some k) ∧ w.heap.size ≤ g := by
 have hkw : k < w.heap.size := by obtain ⟨_, _, _, _, h⟩ := hc.cells; exact lt_of_block h
 have HB := hide (fun hn x hx => ha_lt hc (World.grownBy.refl w none) hn x hx)
 obtain ⟨i0, hi, hn0, hn1, hn2⟩ := info_parts Try.infoBox
 have HC := hide hc
 clear hc
 go_enter Try.func49, Try.ntmps49
 go_wp2_with fail
 have CA := hide (HC.out.mono ((Below.refl _ _).alloc (Nat.le_refl _) (.cells #[.int .i64 0, .int .i64 0, .int .i64 0, .int .i64 0] 27)))
 have GA : Hid (w.grownBy (w.alloc (.cells #[.int .i64 0, .int .i64 0, .int .i64 0, .int .i64 0] 27)) (some k)) := World.grownBy_alloc w _ (some k)
 have QA : Hid (Blk (w.alloc (.cells #[.int .i64 0, .int .i64 0, .int .i64 0, .int .i64 0] 27)) w.heap.size [.int .i64 0, .int .i64 0, .int .i64 0, .int .i64 0]) := Blk.allocAt [.int .i64 0, .int .i64 0, .int .i64 0, .int .i64 0] rfl
 have hzA : w.heap.size < (w.alloc (.cells #[.int .i64 0, .int .i64 0, .int .i64 0, .int .i64 0] 27)).heap.size := by simp
 generalize (w.alloc (.cells #[.int .i64 0, .int .i64 0, .int .i64 0, .int .i64 0] 27)) = wa at *
 refine (l1Below_any k a n c zs 15 _ CA.out (by omega) (by omega)).mono ?_
 rintro e w0 ⟨x0, rfl, hx0, hy0, hc0, hg0⟩
 have C0 := hide hc0
 have G0 := hide (gb_same GA.out hg0)
 have Q0 := hide (QA.out.gb hg0 hzA (by omega))
 have hz0 : w.heap.size < w0.heap.size := Nat.lt_of_lt_of_le hzA hg0.size
 clear hc0 hg0 CA GA QA
 go_wp2_with fail
 refine (l1Below_any k a n c zs 15 _ C0.out (by omega) (by omega)).mono ?_
 rintro e w1 ⟨x1, rfl, hx1, hy1, hc1, hg1⟩
 have C1 := hide hc1
 have G1 := hide (gb_same G0.out hg1)
 have Q1 := hide (Q0.out.gb hg1 hz0 (by omega))
 have hz1 : w.heap.size < w1.heap.size := Nat.lt_of_lt_of_le hz0 hg1.size
 clear hc1 hg1 C0 G0 Q0
 go_wp2_with fail
 refine (l1Below_any k a n c zs 12 _ C1.out (by omega) (by omega)).mono ?_
 rintro e w2 ⟨x2, rfl, hx2, hy2, hc2, hg2⟩
 have C2 := hide hc2
 have G2 := hide (gb_same G1.out hg2)
 have Q2 := hide (Q1.out.gb hg2 hz1 (by omega))
 have hz2 : w.heap.size < w2.heap.size := Nat.lt_of_lt_of_le hz1 hg2.size
 clear hc2 hg2 C1 G1 Q1
 go_wp2_with fail
 have C3 := hide (C2.out.mono ((Below.refl _ _).alloc (Nat.le_refl _) (.cells #[.int .i64 40, .int .i64 90, .int .i64 400] 3)))
 have G3 : Hid (w.grownBy (w2.alloc (.cells #[.int .i64 40, .int .i64 90, .int .i64 400] 3)) (some k)) := gbAnyB G2.out (World.grownBy_alloc w2 _ none) (fun b h => by cases h)
 have Q3 := hide (Q2.out.allocOld hz2 (.cells #[.int .i64 40, .int .i64 90, .int .i64 400] 3))
 have U3 : Hid (Rd (w2.alloc (.cells #[.int .i64 40, .int .i64 90, .int .i64 400] 3)) (some ⟨w2.heap.size, 0, none⟩) 3 [40, 90, 400]) := rdInts3 (t := 3) (ls := [40, 90, 400]) (Blk.allocAt [.int .i64 40, .int .i64 90, .int .i64 400] rfl)
 have hz3 : w.heap.size < (w2.alloc (.cells #[.int .i64 40, .int .i64 90, .int .i64 400] 3)).heap.size := ltAllocB hz2 _
 generalize hw3 : (w2.alloc (.cells #[.int .i64 40, .int .i64 90, .int .i64 400] 3)) = w3 at *
 refine (l1PickInt_any k a n c zs w2.heap.size 3 3 [40, 90, 400] _ C3.out U3.out (by omega) (by omega) (by omega)).mono ?_
 rintro e w4 ⟨j4, hj4, rfl, hc4, hg4⟩
 have C4 := hide hc4
 have G4 := hide (gb_same G3.out hg4)
 have Q4 := hide (Q3.out.gb hg4 hz3 (by omega))
 have hz4 : w.heap.size < w4.heap.size := Nat.lt_of_lt_of_le hz3 hg4.size
 clear hc4 hg4 C3 G3 Q3 U3 C2 G2 Q2 hw3 hj4
 generalize ([40, 90, 400] : List Int).getD j4 0 = x4
 go_wp2_with fail
 have S5 : Hid (Bxs w k a n c zs (w4.heap.size + 1) 0 0 ([]) w4.heap.size [.int .i64 (10 + x0), .int .i64 (8 + x1), .int .i64 (6 + x2), .int .i64 x4] w.heap.size [.int .i64 0, .int .i64 0, .int .i64 0, .int .i64 0] ((w4.alloc (.cells #[.int .i64 (10 + x0), .int .i64 (8 + x1), .int .i64 (6 + x2), .int .i64 x4] 27)).alloc (.cells #[] 52))) := ⟨(C4.out.mono ((Below.refl _ _).alloc (Nat.le_refl _) _)).mono ((Below.refl _ _).alloc (Nat.le_refl _) _), gbAnyB (gbAnyB G4.out (World.grownBy_alloc w4 _ none) (fun b h => by cases h)) (World.grownBy_alloc _ _ none) (fun b h => by cases h), by have h := World.ownsRow_lit (w4.alloc (.cells #[.int .i64 (10 + x0), .int .i64 (8 + x1), .int .i64 (6 + x2), .int .i64 x4] 27)) (e := 52) (base := w.heap.size) (size := 4) #[] 0 (by simp; omega) (Nat.zero_le _) (by simp); rw [show (w4.alloc (.cells #[.int .i64 (10 + x0), .int .i64 (8 + x1), .int .i64 (6 + x2), .int .i64 x4] 27)).heap.size = w4.heap.size + 1 by simp] at h; exact h, hkw, unhide HB, ⟨(Blk.allocAt [.int .i64 (10 + x0), .int .i64 (8 + x1), .int .i64 (6 + x2), .int .i64 x4] rfl).allocOld (by simp) _, by simp; omega, by omega, by omega⟩, ⟨(Q4.out.allocOld hz4 _).allocOld (ltAllocB hz4 _) _, by simp; omega, by omega, by omega⟩, by omega⟩
 clear C4 G4 Q4
 generalize ((w4.alloc (.cells #[.int .i64 (10 + x0), .int .i64 (8 + x1), .int .i64 (6 + x2), .int .i64 x4] 27)).alloc (.cells #[] 52)) = w5 at *
 generalize hRP : w4.heap.size = RP at *
 refine (l1Below_any k a n c zs 12 _ S5.out.cur (by omega) (by omega)).mono ?_
 rintro e w6 ⟨x6, rfl, hx6, hy6, hc6, hg6⟩
 have S6 := hide (S5.out.call hg6 hc6)
 clear hc6 hg6 S5
 have hwR : w.heap.size ≤ RP := by omega
 clear hRP
 go_wp2
 go_loopw [5, 7] (fun o i wr => ∃ (j g cap : Nat) (bs : List BoxV), (j : Int) ≤ x6 ∧ i = .int .i64 j ∧ bs.length = j ∧ o = .slice (some ⟨g, 0, none⟩) j cap ∧ Bxs w k a n c zs g cap j (bs.flatMap BoxV.cells) RP [.int .i64 (10 + x0), .int .i64 (8 + x1), .int .i64 (6 + x2), .int .i64 x4] w.heap.size [.int .i64 0, .int .i64 0, .int .i64 0, .int .i64 0] wr) (fun _ i _ => x6.toNat - (intOf i).toNat)
 case atStart => exact ⟨0, RP + 1, 0, [], by omega, rfl, rfl, rfl, unhide S6⟩
 case round =>
  clear S6
  obtain ⟨j, g, cap, bs, hjx, rfl, hbl, rfl, hS⟩ := hrel
  have S7 := hide hS
  clear hS
  by_cases hlt : (j : Int) < x6
  case pos =>
   go_wp2_with fail
   refine (l1Below_any k a n c zs 9 _ S7.out.cur (by omega) (by omega)).mono ?_
   rintro e v0 ⟨y0, rfl, hp0, hq0, hc0, hg0⟩
   have S8 := hide (S7.out.call hg0 hc0)
   clear hc0 hg0 S7
   go_wp2_with fail
   refine (l1Below_any k a n c zs 8 _ S8.out.cur (by omega) (by omega)).mono ?_
   rintro e v1 ⟨y1, rfl, hp1, hq1, hc1, hg1⟩
   have S9 := hide (S8.out.call hg1 hc1)
   clear hc1 hg1 S8
   go_wp2_with fail
   refine (l1Below_any k a n c zs 6 _ S9.out.cur (by omega) (by omega)).mono ?_
   rintro e v2 ⟨y2, rfl, hp2, hq2, hc2, hg2⟩
   have S10 := hide (S9.out.call hg2 hc2)
   clear hc2 hg2 S9
   go_wp2_with fail
   refine (l1Below_any k a n c zs 20 _ S10.out.cur (by omega) (by omega)).mono ?_
   rintro e v3 ⟨y3, rfl, hp3, hq3, hc3, hg3⟩
   have S11 := hide (S10.out.call hg3 hc3)
   clear hc3 hg3 S10
   have SL := hide (S11.out.alloc (.cells #[.int .i64 (1 + y0), .int .i64 (1 + y1), .int .i64 (1 + y2), .int .i64 (1 + y3)] 52))
   have HNW : Hid (∀ j u, [Value.int .i64 (1 + y0), .int .i64 (1 + y1), .int .i64 (1 + y2), .int .i64 (1 + y3)][j]? = some u → (v3.alloc (.cells #[.int .i64 (1 + y0), .int .i64 (1 + y1), .int .i64 (1 + y2), .int .i64 (1 + y3)] 52)).cell? ((⟨v3.heap.size, 0, none⟩ : Addr).add j) = some u) := World.news_of_block (heap_alloc_new _ _)
   have hj12 : j ≤ 12 := by omega
   have hBz : w.heap.size ≤ v3.heap.size := S11.out.gb.size
   go_wp2_with (first
    | (at_builtin; refine wpList_append_lies _ rfl _ _ 29 rfl w.heap.size 52 i0 (.agg #[.int .i64 0, .int .i64 0, .int .i64 0, .int .i64 0]) 4 32 Try.underlying29 hi hn0 hn1 hn2 rfl (by omega) (.slice (some ⟨g, 0, none⟩) j cap) j (bs.flatMap BoxV.cells) rfl SL.out.own ⟨v3.heap.size, 0, none⟩ 1 1 [.int .i64 (1 + y0), .int .i64 (1 + y1), .int .i64 (1 + y2), .int .i64 (1 + y3)] rfl rfl HNW.out (by simp [Value.oneCell']) (by omega) (by unfold maxLen; omega) (by omega) (by simp; omega) (v3.heap.size + 1) (by simp) ?_; intro g9 cap9 w9 ho9 hg9 hat9 hlt9)
    | fail)
   have S12 : Hid (Bxs w k a n c zs g9 cap9 (j + 1) ((bs ++ [(⟨1 + y0, 1 + y1, 1 + y2, 1 + y3⟩ : BoxV)]).flatMap BoxV.cells) RP [.int .i64 (10 + x0), .int .i64 (8 + x1), .int .i64 (6 + x2), .int .i64 x4] w.heap.size [.int .i64 0, .int .i64 0, .int .i64 0, .int .i64 0] w9) := SL.out.app (by rw [List.flatMap_append]; exact ho9) hg9 (hat9.imp (fun e => by simpa [Value.ownBlock] using e) (fun e => by rw [e]; simp))
   clear ho9 hg9 hat9 hlt9 S11 SL HNW
   go_roundw
   case rel => exact ⟨j + 1, g9, cap9, bs ++ [(⟨1 + y0, 1 + y1, 1 + y2, 1 + y3⟩ : BoxV)], by omega, by go_num, by simp [hbl], rfl, unhide S12⟩
   case measure => simp [intOf]; omega
  case neg =>
   obtain rfl : x6 = (j : Int) := by omega
   clear hjx hlt
   by_cases hj0 : j = 0
   · subst hj0
     go_wp2_with fail
     refine (l1Once_any k a n c zs 24 _ S7.out.cur (by omega) (by omega)).mono ?_
     rintro e z1 ⟨o1, rfl, hc, hg⟩
     have T1 := hide (S7.out.call hg hc)
     clear hc hg S7
     cases o1
     case false =>
      have rk2 := T1.out.rb.1
      have qk2 := T1.out.qb.1
      have hRk := T1.out.rb.2.1
      have hQk := T1.out.qb.2.1
      obtain ⟨ra0, ra1, ra2, ra3⟩ := Blk.cs4 rk2
      obtain ⟨qa0, qf0, qa1, qf1, qa2, qf2, qa3, qf3⟩ := Blk.cf4 qk2
      clear rk2 qk2
      go_wp2_with fail
      have CC : Blk ((((z1.setCell ⟨w.heap.size, 0, none⟩ (.int .i64 (10 + x0))).setCell ⟨w.heap.size, 1, none⟩ (.int .i64 (8 + x1))).setCell ⟨w.heap.size, 2, none⟩ (.int .i64 (6 + x2))).setCell ⟨w.heap.size, 3, none⟩ (.int .i64 x4)) w.heap.size [.int .i64 (10 + x0), .int .i64 (8 + x1), .int .i64 (6 + x2), .int .i64 x4] := (((T1.out.qb.1.set (by simp)).set (by simp)).set (by simp)).set (by simp)
      have c0 := (CC 0 (by simp)).1
      have c1 := (CC 1 (by simp)).1
      have c2 := (CC 2 (by simp)).1
      have c3 := (CC 3 (by simp)).1
      simp only [List.getElem?_cons_zero, List.getElem?_cons_succ] at c0 c1 c2 c3
      have gq := gb_set (gb_set (gb_set (gb_set (World.grownBy.refl z1 (some w.heap.size)) 0 (.int .i64 (10 + x0))) 1 (.int .i64 (8 + x1))) 2 (.int .i64 (6 + x2))) 3 (.int .i64 x4)
      have hog := T1.out.own.kept gq (Or.inr (by intro e; simp [Value.ownBlock] at e; exact T1.out.qb.2.2.2 e.symm))
      have hl : (bs).length = 0 := by first | (simp [hbl]; done) | (have h9 := hbl; simp at h9 ⊢; omega)
      refine bodyPost_ret (v := .tuple #[.agg #[.int .i64 (10 + x0), .int .i64 (8 + x1), .int .i64 (6 + x2), .int .i64 x4], .slice (some ⟨g, 0, none⟩) 0 cap]) (by simp [results, Try.results49, go_sem, c0, c1, c2, c3]) rfl ⟨⟨(10 + x0), (8 + x1), (6 + x2), x4⟩, g, cap, bs, by rw [hl], by omega, ?_, gbAnyB T1.out.gb gq (fun b e => by injection e with e; omega), own_base T1.out.own⟩
      rw [hl]
      exact RdR.of_owns hog hl (fun i hi m hm => flatAtB _ i (by rw [hl]; exact hi) m hm)
     case true =>
      go_wp2_with fail
      have T3 := hide (T1.out.alloc (.cells #[.int .i64 0, .int .i64 2001] 3))
      have U3 : Hid (Rd (z1.alloc (.cells #[.int .i64 0, .int .i64 2001] 3)) (some ⟨z1.heap.size, 0, none⟩) 2 [0, 2001]) := rdInts3 (t := 3) (ls := [0, 2001]) (Blk.allocAt [.int .i64 0, .int .i64 2001] rfl)
      have hkv : z1.heap.size ≠ k := by have := T1.out.gb.size; omega
      generalize hwv : (z1.alloc (.cells #[.int .i64 0, .int .i64 2001] 3)) = wl3 at *
      refine (l1PickInt_any k a n c zs z1.heap.size 2 2 [0, 2001] _ T3.out.cur U3.out (by omega) (by omega) hkv).mono ?_
      rintro e z3 ⟨jj, hjj, rfl, hc, hg⟩
      have TT3 := hide (T3.out.call hg hc)
      generalize ([0, 2001] : List Int).getD jj 0 = pv3
      clear hc hg T3 T1 U3 hwv hjj hkv
      have rk := TT3.out.rb.1
      obtain ⟨rb0, rb1, rb2, rb3⟩ := Blk.cs4 rk
      have rbf : z3.frozen? ⟨RP, 1, none⟩ = false := (rk 1 (by simp)).2
      clear rk
      have TS3 : Hid (Bxs w k a n c zs g cap 0 ((bs).flatMap BoxV.cells) RP [.int .i64 (10 + x0), .int .i64 pv3, .int .i64 (6 + x2), .int .i64 x4] w.heap.size [.int .i64 0, .int .i64 0, .int .i64 0, .int .i64 0] (z3.setCell ⟨RP, 1, none⟩ (.int .i64 pv3))) := TT3.out.pal 1 (by simp) (.int .i64 pv3)
      skip
      have rk4 := TS3.out.rb.1
      have qk4 := TS3.out.qb.1
      have hRk := TS3.out.rb.2.1
      have hQk := TS3.out.qb.2.1
      obtain ⟨ra0, ra1, ra2, ra3⟩ := Blk.cs4 rk4
      obtain ⟨qa0, qf0, qa1, qf1, qa2, qf2, qa3, qf3⟩ := Blk.cf4 qk4
      clear rk4 qk4
      go_wp2_with fail
      have CC : Blk (((((z3.setCell ⟨RP, 1, none⟩ (.int .i64 pv3)).setCell ⟨w.heap.size, 0, none⟩ (.int .i64 (10 + x0))).setCell ⟨w.heap.size, 1, none⟩ (.int .i64 pv3)).setCell ⟨w.heap.size, 2, none⟩ (.int .i64 (6 + x2))).setCell ⟨w.heap.size, 3, none⟩ (.int .i64 x4)) w.heap.size [.int .i64 (10 + x0), .int .i64 pv3, .int .i64 (6 + x2), .int .i64 x4] := (((TS3.out.qb.1.set (by simp)).set (by simp)).set (by simp)).set (by simp)
      have c0 := (CC 0 (by simp)).1
      have c1 := (CC 1 (by simp)).1
      have c2 := (CC 2 (by simp)).1
      have c3 := (CC 3 (by simp)).1
      simp only [List.getElem?_cons_zero, List.getElem?_cons_succ] at c0 c1 c2 c3
      have gq := gb_set (gb_set (gb_set (gb_set (World.grownBy.refl (z3.setCell ⟨RP, 1, none⟩ (.int .i64 pv3)) (some w.heap.size)) 0 (.int .i64 (10 + x0))) 1 (.int .i64 pv3)) 2 (.int .i64 (6 + x2))) 3 (.int .i64 x4)
      have hog := TS3.out.own.kept gq (Or.inr (by intro e; simp [Value.ownBlock] at e; exact TS3.out.qb.2.2.2 e.symm))
      have hl : (bs).length = 0 := by first | (simp [hbl]; done) | (have h9 := hbl; simp at h9 ⊢; omega)
      refine bodyPost_ret (v := .tuple #[.agg #[.int .i64 (10 + x0), .int .i64 pv3, .int .i64 (6 + x2), .int .i64 x4], .slice (some ⟨g, 0, none⟩) 0 cap]) (by simp [results, Try.results49, go_sem, c0, c1, c2, c3]) rfl ⟨⟨(10 + x0), pv3, (6 + x2), x4⟩, g, cap, bs, by rw [hl], by omega, ?_, gbAnyB TS3.out.gb gq (fun b e => by injection e with e; omega), own_base TS3.out.own⟩
      rw [hl]
      exact RdR.of_owns hog hl (fun i hi m hm => flatAtB _ i (by rw [hl]; exact hi) m hm)
   · have hjp : (j : Int) > 0 := by omega
     go_wp2_with fail
     all_goals (try (exfalso; omega))
     refine (l1Once_any k a n c zs 12 _ S7.out.cur (by omega) (by omega)).mono ?_
     rintro e wo ⟨oo, rfl, hc, hg⟩
     have SO := hide (S7.out.call hg hc)
     clear hc hg S7
     cases oo
     case false =>
      go_wp2_with fail
      refine (l1Once_any k a n c zs 24 _ SO.out.cur (by omega) (by omega)).mono ?_
      rintro e z5 ⟨o5, rfl, hc, hg⟩
      have T5 := hide (SO.out.call hg hc)
      clear hc hg SO
      cases o5
      case false =>
       have rk6 := T5.out.rb.1
       have qk6 := T5.out.qb.1
       have hRk := T5.out.rb.2.1
       have hQk := T5.out.qb.2.1
       obtain ⟨ra0, ra1, ra2, ra3⟩ := Blk.cs4 rk6
       obtain ⟨qa0, qf0, qa1, qf1, qa2, qf2, qa3, qf3⟩ := Blk.cf4 qk6
       clear rk6 qk6
       go_wp2_with fail
       have CC : Blk ((((z5.setCell ⟨w.heap.size, 0, none⟩ (.int .i64 (10 + x0))).setCell ⟨w.heap.size, 1, none⟩ (.int .i64 (8 + x1))).setCell ⟨w.heap.size, 2, none⟩ (.int .i64 (6 + x2))).setCell ⟨w.heap.size, 3, none⟩ (.int .i64 x4)) w.heap.size [.int .i64 (10 + x0), .int .i64 (8 + x1), .int .i64 (6 + x2), .int .i64 x4] := (((T5.out.qb.1.set (by simp)).set (by simp)).set (by simp)).set (by simp)
       have c0 := (CC 0 (by simp)).1
       have c1 := (CC 1 (by simp)).1
       have c2 := (CC 2 (by simp)).1
       have c3 := (CC 3 (by simp)).1
       simp only [List.getElem?_cons_zero, List.getElem?_cons_succ] at c0 c1 c2 c3
       have gq := gb_set (gb_set (gb_set (gb_set (World.grownBy.refl z5 (some w.heap.size)) 0 (.int .i64 (10 + x0))) 1 (.int .i64 (8 + x1))) 2 (.int .i64 (6 + x2))) 3 (.int .i64 x4)
       have hog := T5.out.own.kept gq (Or.inr (by intro e; simp [Value.ownBlock] at e; exact T5.out.qb.2.2.2 e.symm))
       have hl : (bs).length = j := by first | (simp [hbl]; done) | (have h9 := hbl; simp at h9 ⊢; omega)
       refine bodyPost_ret (v := .tuple #[.agg #[.int .i64 (10 + x0), .int .i64 (8 + x1), .int .i64 (6 + x2), .int .i64 x4], .slice (some ⟨g, 0, none⟩) j cap]) (by simp [results, Try.results49, go_sem, c0, c1, c2, c3]) rfl ⟨⟨(10 + x0), (8 + x1), (6 + x2), x4⟩, g, cap, bs, by rw [hl], by omega, ?_, gbAnyB T5.out.gb gq (fun b e => by injection e with e; omega), own_base T5.out.own⟩
       rw [hl]
       exact RdR.of_owns hog hl (fun i hi m hm => flatAtB _ i (by rw [hl]; exact hi) m hm)
      case true =>
       go_wp2_with fail
       have T7 := hide (T5.out.alloc (.cells #[.int .i64 0, .int .i64 2001] 3))
       have U7 : Hid (Rd (z5.alloc (.cells #[.int .i64 0, .int .i64 2001] 3)) (some ⟨z5.heap.size, 0, none⟩) 2 [0, 2001]) := rdInts3 (t := 3) (ls := [0, 2001]) (Blk.allocAt [.int .i64 0, .int .i64 2001] rfl)
       have hkv : z5.heap.size ≠ k := by have := T5.out.gb.size; omega
       generalize hwv : (z5.alloc (.cells #[.int .i64 0, .int .i64 2001] 3)) = wl7 at *
       refine (l1PickInt_any k a n c zs z5.heap.size 2 2 [0, 2001] _ T7.out.cur U7.out (by omega) (by omega) hkv).mono ?_
       rintro e z7 ⟨jj, hjj, rfl, hc, hg⟩
       have TT7 := hide (T7.out.call hg hc)
       generalize ([0, 2001] : List Int).getD jj 0 = pv7
       clear hc hg T7 T5 U7 hwv hjj hkv
       have rk := TT7.out.rb.1
       obtain ⟨rb0, rb1, rb2, rb3⟩ := Blk.cs4 rk
       have rbf : z7.frozen? ⟨RP, 1, none⟩ = false := (rk 1 (by simp)).2
       clear rk
       have TS7 : Hid (Bxs w k a n c zs g cap j ((bs).flatMap BoxV.cells) RP [.int .i64 (10 + x0), .int .i64 pv7, .int .i64 (6 + x2), .int .i64 x4] w.heap.size [.int .i64 0, .int .i64 0, .int .i64 0, .int .i64 0] (z7.setCell ⟨RP, 1, none⟩ (.int .i64 pv7))) := TT7.out.pal 1 (by simp) (.int .i64 pv7)
       skip
       have rk8 := TS7.out.rb.1
       have qk8 := TS7.out.qb.1
       have hRk := TS7.out.rb.2.1
       have hQk := TS7.out.qb.2.1
       obtain ⟨ra0, ra1, ra2, ra3⟩ := Blk.cs4 rk8
       obtain ⟨qa0, qf0, qa1, qf1, qa2, qf2, qa3, qf3⟩ := Blk.cf4 qk8
       clear rk8 qk8
       go_wp2_with fail
       have CC : Blk (((((z7.setCell ⟨RP, 1, none⟩ (.int .i64 pv7)).setCell ⟨w.heap.size, 0, none⟩ (.int .i64 (10 + x0))).setCell ⟨w.heap.size, 1, none⟩ (.int .i64 pv7)).setCell ⟨w.heap.size, 2, none⟩ (.int .i64 (6 + x2))).setCell ⟨w.heap.size, 3, none⟩ (.int .i64 x4)) w.heap.size [.int .i64 (10 + x0), .int .i64 pv7, .int .i64 (6 + x2), .int .i64 x4] := (((TS7.out.qb.1.set (by simp)).set (by simp)).set (by simp)).set (by simp)
       have c0 := (CC 0 (by simp)).1
       have c1 := (CC 1 (by simp)).1
       have c2 := (CC 2 (by simp)).1
       have c3 := (CC 3 (by simp)).1
       simp only [List.getElem?_cons_zero, List.getElem?_cons_succ] at c0 c1 c2 c3
       have gq := gb_set (gb_set (gb_set (gb_set (World.grownBy.refl (z7.setCell ⟨RP, 1, none⟩ (.int .i64 pv7)) (some w.heap.size)) 0 (.int .i64 (10 + x0))) 1 (.int .i64 pv7)) 2 (.int .i64 (6 + x2))) 3 (.int .i64 x4)
       have hog := TS7.out.own.kept gq (Or.inr (by intro e; simp [Value.ownBlock] at e; exact TS7.out.qb.2.2.2 e.symm))
       have hl : (bs).length = j := by first | (simp [hbl]; done) | (have h9 := hbl; simp at h9 ⊢; omega)
       refine bodyPost_ret (v := .tuple #[.agg #[.int .i64 (10 + x0), .int .i64 pv7, .int .i64 (6 + x2), .int .i64 x4], .slice (some ⟨g, 0, none⟩) j cap]) (by simp [results, Try.results49, go_sem, c0, c1, c2, c3]) rfl ⟨⟨(10 + x0), pv7, (6 + x2), x4⟩, g, cap, bs, by rw [hl], by omega, ?_, gbAnyB TS7.out.gb gq (fun b e => by injection e with e; omega), own_base TS7.out.own⟩
       rw [hl]
       exact RdR.of_owns hog hl (fun i hi m hm => flatAtB _ i (by rw [hl]; exact hi) m hm)
     case true =>
      obtain ⟨b0, t, rfl⟩ : ∃ b0 t, bs = b0 :: t := by cases bs with | nil => simp at hbl; omega | cons b0 t => exact ⟨b0, t, rfl⟩
      have rk := SO.out.rb.1
      obtain ⟨rc0, rc1, rc2, rc3⟩ := Blk.cs4 rk
      clear rk
      go_wp2_with fail
      have SP := hide (SO.out.alloc (.cells #[.int .i64 0, .int .i64 (10 + x0), .int .i64 (10 + x0 + 1), .int .i64 (-1)] 3))
      have UP : Hid (Rd (wo.alloc (.cells #[.int .i64 0, .int .i64 (10 + x0), .int .i64 (10 + x0 + 1), .int .i64 (-1)] 3)) (some ⟨wo.heap.size, 0, none⟩) 4 [0, 10 + x0, 10 + x0 + 1, -1]) := rdInts3 (t := 3) (ls := [0, 10 + x0, 10 + x0 + 1, -1]) (Blk.allocAt [.int .i64 0, .int .i64 (10 + x0), .int .i64 (10 + x0 + 1), .int .i64 (-1)] rfl)
      have hkv : wo.heap.size ≠ k := by have := SO.out.gb.size; omega
      generalize hwv : (wo.alloc (.cells #[.int .i64 0, .int .i64 (10 + x0), .int .i64 (10 + x0 + 1), .int .i64 (-1)] 3)) = wp at *
      refine (l1PickInt_any k a n c zs wo.heap.size 4 4 [0, 10 + x0, 10 + x0 + 1, -1] _ SP.out.cur UP.out (by omega) (by omega) hkv).mono ?_
      rintro e wq ⟨jj, hjj, rfl, hc, hg⟩
      have SQ := hide (SP.out.call hg hc)
      generalize ([0, 10 + x0, 10 + x0 + 1, -1] : List Int).getD jj 0 = pq
      clear hc hg SP SO UP hwv hjj hkv rc0 rc1 rc2 rc3
      have gc0 : wq.cell? ⟨g, 0, none⟩ = some (.int .i64 b0.wd) := (SQ.out.own.cellAt 0 (by omega)).trans rfl
      have gf0 : wq.frozen? ⟨g, 0, none⟩ = false := SQ.out.own.frozenAt 0
      have SR : Hid (Bxs w k a n c zs g cap j (((⟨pq, b0.dp, b0.ht, b0.gram⟩ : BoxV) :: t).flatMap BoxV.cells) RP [.int .i64 (10 + x0), .int .i64 (8 + x1), .int .i64 (6 + x2), .int .i64 x4] w.heap.size [.int .i64 0, .int .i64 0, .int .i64 0, .int .i64 0] (wq.setCell ⟨g, 0, none⟩ (.int .i64 pq))) := SQ.out.put 0 (.int .i64 pq)
      clear SQ
      go_wp2_with fail
      refine (l1Once_any k a n c zs 24 _ SR.out.cur (by omega) (by omega)).mono ?_
      rintro e z9 ⟨o9, rfl, hc, hg⟩
      have T9 := hide (SR.out.call hg hc)
      clear hc hg SR
      cases o9
      case false =>
       have rk10 := T9.out.rb.1
       have qk10 := T9.out.qb.1
       have hRk := T9.out.rb.2.1
       have hQk := T9.out.qb.2.1
       obtain ⟨ra0, ra1, ra2, ra3⟩ := Blk.cs4 rk10
       obtain ⟨qa0, qf0, qa1, qf1, qa2, qf2, qa3, qf3⟩ := Blk.cf4 qk10
       clear rk10 qk10
       go_wp2_with fail
       have CC : Blk ((((z9.setCell ⟨w.heap.size, 0, none⟩ (.int .i64 (10 + x0))).setCell ⟨w.heap.size, 1, none⟩ (.int .i64 (8 + x1))).setCell ⟨w.heap.size, 2, none⟩ (.int .i64 (6 + x2))).setCell ⟨w.heap.size, 3, none⟩ (.int .i64 x4)) w.heap.size [.int .i64 (10 + x0), .int .i64 (8 + x1), .int .i64 (6 + x2), .int .i64 x4] := (((T9.out.qb.1.set (by simp)).set (by simp)).set (by simp)).set (by simp)
       have c0 := (CC 0 (by simp)).1
       have c1 := (CC 1 (by simp)).1
       have c2 := (CC 2 (by simp)).1
       have c3 := (CC 3 (by simp)).1
       simp only [List.getElem?_cons_zero, List.getElem?_cons_succ] at c0 c1 c2 c3
       have gq := gb_set (gb_set (gb_set (gb_set (World.grownBy.refl z9 (some w.heap.size)) 0 (.int .i64 (10 + x0))) 1 (.int .i64 (8 + x1))) 2 (.int .i64 (6 + x2))) 3 (.int .i64 x4)
       have hog := T9.out.own.kept gq (Or.inr (by intro e; simp [Value.ownBlock] at e; exact T9.out.qb.2.2.2 e.symm))
       have hl : ((⟨pq, b0.dp, b0.ht, b0.gram⟩ : BoxV) :: t).length = j := by first | (simp [hbl]; done) | (have h9 := hbl; simp at h9 ⊢; omega)
       refine bodyPost_ret (v := .tuple #[.agg #[.int .i64 (10 + x0), .int .i64 (8 + x1), .int .i64 (6 + x2), .int .i64 x4], .slice (some ⟨g, 0, none⟩) j cap]) (by simp [results, Try.results49, go_sem, c0, c1, c2, c3]) rfl ⟨⟨(10 + x0), (8 + x1), (6 + x2), x4⟩, g, cap, (⟨pq, b0.dp, b0.ht, b0.gram⟩ : BoxV) :: t, by rw [hl], by omega, ?_, gbAnyB T9.out.gb gq (fun b e => by injection e with e; omega), own_base T9.out.own⟩
       rw [hl]
       exact RdR.of_owns hog hl (fun i hi m hm => flatAtB _ i (by rw [hl]; exact hi) m hm)
      case true =>
       go_wp2_with fail
       have T11 := hide (T9.out.alloc (.cells #[.int .i64 0, .int .i64 2001] 3))
       have U11 : Hid (Rd (z9.alloc (.cells #[.int .i64 0, .int .i64 2001] 3)) (some ⟨z9.heap.size, 0, none⟩) 2 [0, 2001]) := rdInts3 (t := 3) (ls := [0, 2001]) (Blk.allocAt [.int .i64 0, .int .i64 2001] rfl)
       have hkv : z9.heap.size ≠ k := by have := T9.out.gb.size; omega
       generalize hwv : (z9.alloc (.cells #[.int .i64 0, .int .i64 2001] 3)) = wl11 at *
       refine (l1PickInt_any k a n c zs z9.heap.size 2 2 [0, 2001] _ T11.out.cur U11.out (by omega) (by omega) hkv).mono ?_
       rintro e z11 ⟨jj, hjj, rfl, hc, hg⟩
       have TT11 := hide (T11.out.call hg hc)
       generalize ([0, 2001] : List Int).getD jj 0 = pv11
       clear hc hg T11 T9 U11 hwv hjj hkv
       have rk := TT11.out.rb.1
       obtain ⟨rb0, rb1, rb2, rb3⟩ := Blk.cs4 rk
       have rbf : z11.frozen? ⟨RP, 1, none⟩ = false := (rk 1 (by simp)).2
       clear rk
       have TS11 : Hid (Bxs w k a n c zs g cap j (((⟨pq, b0.dp, b0.ht, b0.gram⟩ : BoxV) :: t).flatMap BoxV.cells) RP [.int .i64 (10 + x0), .int .i64 pv11, .int .i64 (6 + x2), .int .i64 x4] w.heap.size [.int .i64 0, .int .i64 0, .int .i64 0, .int .i64 0] (z11.setCell ⟨RP, 1, none⟩ (.int .i64 pv11))) := TT11.out.pal 1 (by simp) (.int .i64 pv11)
       skip
       have rk12 := TS11.out.rb.1
       have qk12 := TS11.out.qb.1
       have hRk := TS11.out.rb.2.1
       have hQk := TS11.out.qb.2.1
       obtain ⟨ra0, ra1, ra2, ra3⟩ := Blk.cs4 rk12
       obtain ⟨qa0, qf0, qa1, qf1, qa2, qf2, qa3, qf3⟩ := Blk.cf4 qk12
       clear rk12 qk12
       go_wp2_with fail
       have CC : Blk (((((z11.setCell ⟨RP, 1, none⟩ (.int .i64 pv11)).setCell ⟨w.heap.size, 0, none⟩ (.int .i64 (10 + x0))).setCell ⟨w.heap.size, 1, none⟩ (.int .i64 pv11)).setCell ⟨w.heap.size, 2, none⟩ (.int .i64 (6 + x2))).setCell ⟨w.heap.size, 3, none⟩ (.int .i64 x4)) w.heap.size [.int .i64 (10 + x0), .int .i64 pv11, .int .i64 (6 + x2), .int .i64 x4] := (((TS11.out.qb.1.set (by simp)).set (by simp)).set (by simp)).set (by simp)
       have c0 := (CC 0 (by simp)).1
       have c1 := (CC 1 (by simp)).1
       have c2 := (CC 2 (by simp)).1
       have c3 := (CC 3 (by simp)).1
       simp only [List.getElem?_cons_zero, List.getElem?_cons_succ] at c0 c1 c2 c3
       have gq := gb_set (gb_set (gb_set (gb_set (World.grownBy.refl (z11.setCell ⟨RP, 1, none⟩ (.int .i64 pv11)) (some w.heap.size)) 0 (.int .i64 (10 + x0))) 1 (.int .i64 pv11)) 2 (.int .i64 (6 + x2))) 3 (.int .i64 x4)
       have hog := TS11.out.own.kept gq (Or.inr (by intro e; simp [Value.ownBlock] at e; exact TS11.out.qb.2.2.2 e.symm))
       have hl : ((⟨pq, b0.dp, b0.ht, b0.gram⟩ : BoxV) :: t).length = j := by first | (simp [hbl]; done) | (have h9 := hbl; simp at h9 ⊢; omega)
       refine bodyPost_ret (v := .tuple #[.agg #[.int .i64 (10 + x0), .int .i64 pv11, .int .i64 (6 + x2), .int .i64 x4], .slice (some ⟨g, 0, none⟩) j cap]) (by simp [results, Try.results49, go_sem, c0, c1, c2, c3]) rfl ⟨⟨(10 + x0), pv11, (6 + x2), x4⟩, g, cap, (⟨pq, b0.dp, b0.ht, b0.gram⟩ : BoxV) :: t, by rw [hl], by omega, ?_, gbAnyB TS11.out.gb gq (fun b e => by injection e with e; omega), own_base TS11.out.own⟩
       rw [hl]
       exact RdR.of_owns hog hl (fun i hi m hm => flatAtB _ i (by rw [hl]; exact hi) m hm)
set_option maxRecDepth 100000 in
set_option maxHeartbeats 4000000 in
theorem drawShelves_any (a : Option Addr) (n c : Nat) (zs : List Int) (w : World) (hr : RdB w a n zs) (hn : n ≤ 1048576) (hlt : 0 < n → ∀ x, a = some x → x.block < w.heap.size) :
 Calls Try.prog 28 #[.slice a n c] w fun e w' => ∃ (p : PalletV) (g cap : Nat) (bs : List BoxV), e = .returned (.tuple #[.agg #[.int .i64 p.wd, .int .i64 p.dp, .int .i64 p.ht, .int .i64 p.gram], .slice (some ⟨g, 0, none⟩) bs.length cap]) ∧ bs.length ≤ 12 ∧ RdR BoxV.cells 4 w' (some ⟨g, 0, none⟩) bs.length bs ∧ Below w.heap.size w w' ∧ w.heap.size ≤ g := by
 have HR := hide hr
 have HLT := hide hlt
 clear hr hlt
 go_enter Try.func28, Try.ntmps28
 go_wp2_with fail
 have hb0 : Below w.heap.size w (w.alloc (.cells #[.int .i64 0, .int .i64 0, .int .i64 0, .int .i64 0] 27)) := (Below.refl _ _).alloc (Nat.le_refl _) _
 have QA : Hid (Blk (w.alloc (.cells #[.int .i64 0, .int .i64 0, .int .i64 0, .int .i64 0] 27)) w.heap.size [.int .i64 0, .int .i64 0, .int .i64 0, .int .i64 0]) := Blk.allocAt [.int .i64 0, .int .i64 0, .int .i64 0, .int .i64 0] rfl
 have hzA : w.heap.size < (w.alloc (.cells #[.int .i64 0, .int .i64 0, .int .i64 0, .int .i64 0] 27)).heap.size := by simp
 generalize (w.alloc (.cells #[.int .i64 0, .int .i64 0, .int .i64 0, .int .i64 0] 27)) = wa at *
 refine (l1New_any a n c zs wa (HR.out.mono hb0) hn (fun h0 x hx => by have := HLT.out h0 x hx; have := hb0.size; omega)).mono ?_
 rintro e w1 ⟨rfl, hc, hb1⟩
 have C1 := hide hc
 have B1 := hide (hb0.trans (hb1.mono hb0.size))
 have Q1 := hide (Blk.below hb1 hzA QA.out)
 have hz1 : w.heap.size < w1.heap.size := Nat.lt_of_lt_of_le hzA hb1.size
 have hza : w.heap.size ≤ wa.heap.size := hb0.size
 have hzw : wa.heap.size < w1.heap.size := by obtain ⟨_, _, _, _, h⟩ := hc.cells; exact lt_of_block h
 clear hc hb1 hb0 QA
 go_wp2_with fail
 refine (l10Boxes_any wa.heap.size a n c zs w1 C1.out).mono ?_
 rintro e w2 ⟨p, g, cap, bs, rfl, hl, hrd, hg, hgl⟩
 have Q2 := Q1.out.gb hg hz1 (by omega)
 have B2 := hide (B1.out.grown hg (by have := B1.out.size; omega) (fun b hb => by injection hb with hb; omega))
 have RD := hide hrd
 obtain ⟨q0, f0, q1, f1, q2, f2, q3, f3⟩ := Blk.cf4 Q2
 have HQ := hide Q2
 clear hrd hg C1 B1 Q1 Q2
 go_wp2_with fail
 have CC : Blk ((((w2.setCell ⟨w.heap.size, 0, none⟩ (.int .i64 p.wd)).setCell ⟨w.heap.size, 1, none⟩ (.int .i64 p.dp)).setCell ⟨w.heap.size, 2, none⟩ (.int .i64 p.ht)).setCell ⟨w.heap.size, 3, none⟩ (.int .i64 p.gram)) w.heap.size [.int .i64 p.wd, .int .i64 p.dp, .int .i64 p.ht, .int .i64 p.gram] := (((HQ.out.set (by simp)).set (by simp)).set (by simp)).set (by simp)
 have c0 := (CC 0 (by simp)).1
 have c1 := (CC 1 (by simp)).1
 have c2 := (CC 2 (by simp)).1
 have c3 := (CC 3 (by simp)).1
 simp only [List.getElem?_cons_zero, List.getElem?_cons_succ] at c0 c1 c2 c3
 refine bodyPost_ret (v := .tuple #[.agg #[.int .i64 p.wd, .int .i64 p.dp, .int .i64 p.ht, .int .i64 p.gram], .slice (some ⟨g, 0, none⟩) bs.length cap]) (by simp [results, Try.results28, go_sem, c0, c1, c2, c3]) rfl ⟨p, g, cap, bs, rfl, hl, ?_, ?_, by omega⟩
 · have hne : ∀ x, (some (⟨g, 0, none⟩ : Addr)) = some x → x.block ≠ w.heap.size := fun x hx => by cases hx; show g ≠ w.heap.size; omega
   exact (((RD.out.other hne).other hne).other hne).other hne
 · exact (((B2.out.setCell (by dsimp only; omega) _).setCell (by dsimp only; omega) _).setCell (by dsimp only; omega) _).setCell (by dsimp only; omega) _
end Go.Proofs.Ytcblpoeeembniaa
