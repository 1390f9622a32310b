/- l2Right: the model draws an order that is within bounds. -/
import Derived.Test.YtcblpoeeembniabGreatDoorDrawSt
import Derived.Test.YtcblpoeeembniabGreatDoorPkC
import Derived.Deep.DeepMust
import Derived.Deep.DeepCutAuto
import Derived.Deep.RegionHeld3
import Derived.Deep.RegionLaw
import Derived.WalkSpells
namespace Go.Proofs.YtcblpoeeembniabGreatDoor
open Go.RowKit
set_option linter.unusedVariables false
set_option linter.unusedSimpArgs false

/-- l1PickInt out of a literal. -/
theorem pickL (k : Nat) (a : Option Addr) (n c : Nat) (zs : List Int) (ls : List Int) (w : World) (hc : Cur w k a n c zs) (hm0 : 1 ≤ ls.length) (hm1 : ls.length ≤ 256) :
 Calls Tryz.prog 140 #[.pointer (some ⟨k, 0, none⟩), .slice (some ⟨w.heap.size, 0, none⟩) ls.length ls.length] (w.alloc (.cells (ls.map (Value.int .i64)).toArray 3)) fun e w' =>
  ∃ v : Int, e = .returned (.int .i64 v) ∧ v ∈ ls ∧ Cur w' k a n c zs ∧ w.grownBy w' (some k) := by
 have hkw : k < w.heap.size := by obtain ⟨_, _, _, _, h⟩ := hc.cells; exact lt_of_block h
 have hlit : Rd (w.alloc (.cells (ls.map (Value.int .i64)).toArray 3)) (some ⟨w.heap.size, 0, none⟩) ls.length ls :=
  Rd.of_owns (base := w.heap.size) (cap := ls.length) (by simpa using World.ownsRow_lit (base := w.heap.size) (e := 3) (size := 1) w (ls.map (Value.int .i64)).toArray ls.length (Nat.le_refl _) (by unfold maxLen; omega) (by simp))
 refine (l1PickInt_any k a n c zs w.heap.size ls.length ls.length ls _ (hc.mono ((Below.refl _ _).alloc (Nat.le_refl _) _)) hlit hm0 hm1 (by omega)).mono ?_
 rintro e w' ⟨j, hj, rfl, h1, h2⟩
 refine ⟨_, rfl, ?_, h1, gb_same (World.grownBy_alloc w _ (some k)) h2⟩
 rw [List.getD_eq_getElem?_getD, List.getElem?_eq_getElem hj]
 exact List.getElem_mem _
section
variable {w : World} {k : Nat} {a : Option Addr} {n c : Nat} {zs : List Int} {R : Nat} {r : ReqV} {h : ReqH} {W : World}
theorem below_st (m : Int) (s : St w k a n c zs R r h W) (hm0 : 1 ≤ m) (hm1 : m ≤ 256) :
 Calls Tryz.prog 65 #[.pointer (some ⟨k, 0, none⟩), .int .i64 m] W fun e w' => ∃ x : Int, e = .returned (.int .i64 x) ∧ 0 ≤ x ∧ x < m ∧ St w k a n c zs R r h w' ∧ W.grownBy w' (some k) := by
 refine (l1Below_any k a n c zs m W s.cur hm0 hm1).mono ?_
 rintro e w' ⟨x, rfl, h1, h2, h3, h4⟩
 exact ⟨x, rfl, h1, h2, s.call h4 h3, h4⟩
theorem once_st (m : Int) (s : St w k a n c zs R r h W) (hm0 : 1 ≤ m) (hm1 : m ≤ 256) :
 Calls Tryz.prog 94 #[.pointer (some ⟨k, 0, none⟩), .int .i64 m] W fun e w' => ∃ b : Bool, e = .returned (.bool b) ∧ St w k a n c zs R r h w' ∧ W.grownBy w' (some k) := by
 refine (l1Once_any k a n c zs m W s.cur hm0 hm1).mono ?_
 rintro e w' ⟨x, rfl, h3, h4⟩
 exact ⟨x, rfl, s.call h4 h3, h4⟩
theorem pick_st (ls : List Int) {b : Nat} (s : St w k a n c zs R r h W) (hl : Lit W b ls) (hm0 : 1 ≤ ls.length) (hm1 : ls.length ≤ 256) (hbk : b ≠ k) :
 Calls Tryz.prog 140 #[.pointer (some ⟨k, 0, none⟩), .slice (some ⟨b, 0, none⟩) ls.length ls.length] W fun e w' => ∃ v : Int, e = .returned (.int .i64 v) ∧ v ∈ ls ∧ St w k a n c zs R r h w' ∧ W.grownBy w' (some k) := by
 refine (l1PickInt_any k a n c zs b ls.length ls.length ls W s.cur hl.rd hm0 hm1 hbk).mono ?_
 rintro e w' ⟨j, hj, rfl, h3, h4⟩
 refine ⟨_, rfl, ?_, s.call h4 h3, h4⟩
 rw [List.getD_eq_getElem?_getD, List.getElem?_eq_getElem hj]
 exact List.getElem_mem _
end
theorem wrap_small {x : Int} (h0 : -9223372036854775808 ≤ x) (h1 : x ≤ 9223372036854775807) : IntKind.i64.wrap x = x := by
 rw [IntKind.wrap_i64]
 omega
theorem itm_ok {j y1 y2 y3 y4 y5 y6 : Int} (h0 : 0 ≤ j) (h0' : j < 6) (h1 : 0 ≤ y1) (h1' : y1 < 10) (h2 : 0 ≤ y2) (h2' : y2 < 10) (h3 : 0 ≤ y3) (h3' : y3 < 10) (h4 : 0 ≤ y4) (h4' : y4 < 60) (h5 : 0 ≤ y5) (h5' : y5 < 4) (h6 : 0 ≤ y6) (h6' : y6 < 4) :
 ItemV.ok ⟨3 * j, 1 + y1, 1 + y2, 1 + y3, 1 + y4, y5, 1 + y6⟩ = true := by
 simp [ItemV.ok, itemB, sidesB, inB]
 omega
theorem itmFacts {w : World} {b : Nat} {q : ItemV} (H : Blk w b (ItemV.cells q)) : w.cell? ⟨b, 0, none⟩ = some (.int .i64 q.id) ∧ w.cell? ⟨b, 1, none⟩ = some (.int .i64 q.wd) ∧ w.cell? ⟨b, 2, none⟩ = some (.int .i64 q.ht) ∧ w.cell? ⟨b, 3, none⟩ = some (.int .i64 q.dp) ∧ w.cell? ⟨b, 4, none⟩ = some (.int .i64 q.gram) ∧ w.cell? ⟨b, 5, none⟩ = some (.int .i64 q.cls) ∧ w.cell? ⟨b, 6, none⟩ = some (.int .i64 q.cnt) :=
 ⟨(H 0 (by simp [ItemV.cells])).1, (H 1 (by simp [ItemV.cells])).1, (H 2 (by simp [ItemV.cells])).1, (H 3 (by simp [ItemV.cells])).1, (H 4 (by simp [ItemV.cells])).1, (H 5 (by simp [ItemV.cells])).1, (H 6 (by simp [ItemV.cells])).1⟩
theorem itmFree {w : World} {b : Nat} {q : ItemV} (H : Blk w b (ItemV.cells q)) : w.frozen? ⟨b, 0, none⟩ = false ∧ w.frozen? ⟨b, 1, none⟩ = false ∧ w.frozen? ⟨b, 2, none⟩ = false ∧ w.frozen? ⟨b, 3, none⟩ = false ∧ w.frozen? ⟨b, 4, none⟩ = false ∧ w.frozen? ⟨b, 5, none⟩ = false ∧ w.frozen? ⟨b, 6, none⟩ = false :=
 ⟨(H 0 (by simp [ItemV.cells])).2, (H 1 (by simp [ItemV.cells])).2, (H 2 (by simp [ItemV.cells])).2, (H 3 (by simp [ItemV.cells])).2, (H 4 (by simp [ItemV.cells])).2, (H 5 (by simp [ItemV.cells])).2, (H 6 (by simp [ItemV.cells])).2⟩
theorem aft_far {h : ReqH} {g m cap : Nat} (hf : Far h g) : some g ≠ (Value.slice h.ai m cap).ownBlock := by
 intro e
 cases hx : h.ai with
 | none => rw [hx] at e; cases e
 | some x =>
  rw [hx] at e
  have : x.block = g := by simpa [Value.ownBlock] using e.symm
  exact hf.2.2 x hx this
theorem ok_sides {q : ItemV} {x y : Int} (h : q.ok = true) (h1 : 1 ≤ x) (h2 : x ≤ 2000) (h3 : 1 ≤ y) (h4 : y ≤ 2000) : ItemV.ok { q with wd := x, ht := y } = true := by
 simp [ItemV.ok, itemB, sidesB, inB] at h ⊢
 omega
theorem ok_dp {q : ItemV} {x : Int} (h : q.ok = true) (h1 : 1 ≤ x) (h2 : x ≤ 2000) : ItemV.ok { q with dp := x } = true := by
 simp [ItemV.ok, itemB, sidesB, inB] at h ⊢
 omega
theorem typ1 {i y1 y2 y3 y4 y5 y6 : Int} (h0 : 0 ≤ i) (h0' : i < 5) (h1 : 0 ≤ y1) (h1' : y1 < 9) (h2 : 0 ≤ y2) (h2' : y2 < 8) (h3 : 0 ≤ y3) (h3' : y3 < 9) (h4 : 0 ≤ y4) (h4' : y4 < 5) (h5 : 0 ≤ y5) (h5' : y5 < 90) (h6 : 0 ≤ y6) (h6' : y6 < 20) :
 TypeV.ok ⟨10 + i, 4 + y1, 3 + y2, 3 + y3, y4, 20 + y5, 1 + y6⟩ = true := by
 simp [TypeV.ok, typeB, sidesB, inB]
 omega
theorem typ0 {y1 y2 y3 : Int} (h1 : 0 ≤ y1) (h2 : y1 < 8) (h3 : y2 ∈ [60, 100, 140]) (h4 : y3 ∈ [9, 20]) : TypeV.ok ⟨7, 12, 10, 11, y1, y2, y3⟩ = true := by
 simp [TypeV.ok, typeB, sidesB, inB] at h3 h4 ⊢
 omega
/-- What is drawn first: within bounds. -/
structure Fst (x1 x2 x3 x4 x5 x6 : Int) (r : ReqV) : Prop where
 way : r.way = x1
 pal : r.pal = ⟨x2, x3, x4, x5⟩
 cl : r.classes = 1 + x6
 ms : r.master = 7
 ps : r.pairs.all pairB = true
theorem Fst.pairs {x1 x2 x3 x4 x5 x6 : Int} {r : ReqV} (f : Fst x1 x2 x3 x4 x5 x6 r) (ps : List PairV) (h : ps.all pairB = true) : Fst x1 x2 x3 x4 x5 x6 { r with pairs := r.pairs ++ ps } :=
 ⟨f.way, f.pal, f.cl, f.ms, by rw [List.all_append, f.ps, h]; rfl⟩
theorem rel17 {w : World} {k : Nat} {a : Option Addr} {n c : Nat} {zs : List Int} {R : Nat} {r : ReqV} {h' : ReqH} {W : World} {x1 x2 x3 x4 x5 x6 x7 : Int} {t : TypeV} {i : Nat} (f : Fst x1 x2 x3 x4 x5 x6 r) (hl : r.types.length = 1 + i) (hok : r.types.all TypeV.ok = true) (hi : r.items = []) (hp : r.pairs.length ≤ 16) (hix : (i : Int) < x7)
 (s : St w k a n c zs R { r with types := r.types ++ [t] } h' W) (ho : t.ok = true) : ∃ (j : Nat) (r : ReqV) (h : ReqH), (j : Int) ≤ x7 ∧ Value.int .i64 ((i : Int) + 1) = .int .i64 j ∧ St w k a n c zs R r h W ∧ Fst x1 x2 x3 x4 x5 x6 r ∧ r.types.length = 1 + j ∧ r.types.all TypeV.ok = true ∧ r.items = [] ∧ r.pairs.length ≤ 16 :=
 ⟨i + 1, _, _, by omega, by go_num, s, ⟨f.way, f.pal, f.cl, f.ms, f.ps⟩, by simp [hl]; omega, by simp [hok, ho], hi, hp⟩
theorem rel12 {w : World} {k : Nat} {a : Option Addr} {n c : Nat} {zs : List Int} {R : Nat} {r : ReqV} {h' : ReqH} {W : World} {x1 x2 x3 x4 x5 x6 : Int} {t : TypeV} (f : Fst x1 x2 x3 x4 x5 x6 r) (ht : r.types = []) (hi : r.items = []) (hl : r.pairs.length ≤ 16)
 (s : St w k a n c zs R { r with types := r.types ++ [t] } h' W) (ho : t.ok = true) : ∃ r h, St w k a n c zs R r h W ∧ Fst x1 x2 x3 x4 x5 x6 r ∧ r.types.length = 1 ∧ r.types.all TypeV.ok = true ∧ r.items = [] ∧ r.pairs.length ≤ 16 :=
 ⟨_, _, s, ⟨f.way, f.pal, f.cl, f.ms, f.ps⟩, by simp [ht], by simp [ht, ho], hi, hl⟩
theorem right_ok {x1 x2 x3 x4 x5 x6 : Int} {r : ReqV} (f : Fst x1 x2 x3 x4 x5 x6 r) (p1 : 0 ≤ x1) (q1 : x1 < 2) (p6 : 0 ≤ x6) (q6 : x6 < 4) (m2 : x2 = 20 ∨ x2 = 30 ∨ x2 = 37) (m3 : x3 = 20 ∨ x3 = 25 ∨ x3 = 40) (m4 : x4 = 15 ∨ x4 = 24 ∨ x4 = 50) (m5 : x5 = 150 ∨ x5 = 400 ∨ x5 = 5000)
 (ht1 : r.types.length ≤ 5) (ht2 : 1 ≤ r.types.length) (hto : r.types.all TypeV.ok = true) (hil : r.items.length ≤ 8) (hio : r.items.all ItemV.ok = true) (hcs : cntSum r.items ≤ 12) (hp : r.pairs.length ≤ 16) : boundsB r = true := by
 have e1 : inB r.way 0 1 = true := by rw [f.way, inB_iff]; omega
 have e2 : r.pal.ok = true := by
  rw [f.pal]
  simp [PalletV.ok, palletB, sidesB, inB]
  omega
 have e3 : inB r.classes 1 4 = true := by rw [f.cl, inB_iff]; omega
 have e4 : pairsB r.pairs = true := by simp [pairsB, hp, f.ps]
 have e5 : typesB r.types = true := by simp only [typesB, hto, Bool.and_true]; rw [inB_iff]; omega
 have e6 : inB r.master 0 999 = true := by rw [f.ms]; rfl
 have e7 : itemsB r.items = true := by simp [itemsB, hil, hio, hcs]
 simp [boundsB, e1, e2, e3, e4, e5, e6, e7]
set_option maxRecDepth 100000 in
set_option maxHeartbeats 4000000 in
theorem l2Right_any (k : Nat) (a : Option Addr) (n c : Nat) (zs : List Int) (w : World) (hc : Cur w k a n c zs) :
 Calls Tryz.prog 139 #[.pointer (some ⟨k, 0, none⟩)] w fun e w' => ∃ r h, e = .returned (reqVal r h) ∧ boundsB r = true ∧ Lst w.heap.size r h w' ∧ Cur w' k a n c zs ∧ w.grownBy w' (some k) := by
 have hkw : k < w.heap.size := by obtain ⟨_, _, _, _, h⟩ := hc.cells; exact lt_of_block h
 have HB := hide (fun hn x hx => ha_lt hc (World.grownBy.refl w none) hn x hx)
 have HC := hide hc
 clear hc
 go_enter Tryz.func139, Tryz.ntmps139
 go_wp2_with fail
 refine (l1Below_any k a n c zs 2 _ (by exact HC.out.mono ((Below.refl _ _).alloc (Nat.le_refl _) _)) (by omega) (by omega)).mono ?_
 rintro e w1 ⟨x1, rfl, p1, q1, hc1, hg1⟩
 have HC1 := hide hc1
 have HG1 := hide (gb_same (World.grownBy_alloc w _ (some k)) hg1)
 have HZ1 : Hid (Blk w1 w.heap.size zeroReq) := (Blk.allocAt zeroReq rfl).grown hg1 (by simp) (by intro e; injection e with e; omega)
 have z1 : w.heap.size < w1.heap.size := by have := hg1.size; simp at this; omega
 clear hc1 hg1
 go_wp2_with fail
 refine (pickL k a n c zs [20, 30, 37] _ HC1.out (by decide) (by decide)).mono ?_
 rintro e w2 ⟨x2, rfl, m2, hc2, hg2⟩
 have HC2 := hide hc2
 have HG2 := hide (gb_same HG1.out hg2)
 have HZ2 := hide (HZ1.out.grown hg2 z1 (by intro e; injection e with e; omega))
 have z2 : w.heap.size < w2.heap.size := Nat.lt_of_lt_of_le z1 hg2.size
 clear hc2 hg2 HC1 HG1 HZ1
 go_wp2_with fail
 refine (pickL k a n c zs [20, 25, 40] _ HC2.out (by decide) (by decide)).mono ?_
 rintro e w3 ⟨x3, rfl, m3, hc3, hg3⟩
 have HC3 := hide hc3
 have HG3 := hide (gb_same HG2.out hg3)
 have HZ3 := hide (HZ2.out.grown hg3 z2 (by intro e; injection e with e; omega))
 have z3 : w.heap.size < w3.heap.size := Nat.lt_of_lt_of_le z2 hg3.size
 clear hc3 hg3 HC2 HG2 HZ2
 go_wp2_with fail
 refine (pickL k a n c zs [15, 24, 50] _ HC3.out (by decide) (by decide)).mono ?_
 rintro e w4 ⟨x4, rfl, m4, hc4, hg4⟩
 have HC4 := hide hc4
 have HG4 := hide (gb_same HG3.out hg4)
 have HZ4 := hide (HZ3.out.grown hg4 z3 (by intro e; injection e with e; omega))
 have z4 : w.heap.size < w4.heap.size := Nat.lt_of_lt_of_le z3 hg4.size
 clear hc4 hg4 HC3 HG3 HZ3
 go_wp2_with fail
 refine (pickL k a n c zs [150, 400, 5000] _ HC4.out (by decide) (by decide)).mono ?_
 rintro e w5 ⟨x5, rfl, m5, hc5, hg5⟩
 have HC5 := hide hc5
 have HG5 := hide (gb_same HG4.out hg5)
 have HZ5 := hide (HZ4.out.grown hg5 z4 (by intro e; injection e with e; omega))
 have z5 : w.heap.size < w5.heap.size := Nat.lt_of_lt_of_le z4 hg5.size
 clear hc5 hg5 HC4 HG4 HZ4
 go_wp2_with fail
 refine (l1Below_any k a n c zs 4 _ HC5.out (by omega) (by omega)).mono ?_
 rintro e w6 ⟨x6, rfl, p6, q6, hc6, hg6⟩
 have HC6 := hide hc6
 have HG6 := hide (gb_same HG5.out hg6)
 have HZ6 := hide (HZ5.out.grown hg6 z5 (by intro e; injection e with e; omega))
 have z6 : w.heap.size < w6.heap.size := Nat.lt_of_lt_of_le z5 hg6.size
 clear hc6 hg6 HC5 HG5 HZ5
 simp only [List.mem_cons, List.not_mem_nil, or_false] at m2 m3 m4 m5
 go_wp2_with fail
 have S0 : Hid (St w k a n c zs w6.heap.size ⟨x1, ⟨x2, x3, x4, x5⟩, 1 + x6, [], [], 7, []⟩ ⟨none, none, none, 0, 0, 0⟩ (w6.alloc (.cells (reqCells ⟨x1, ⟨x2, x3, x4, x5⟩, 1 + x6, [], [], 7, []⟩ ⟨none, none, none, 0, 0, 0⟩).toArray 41))) :=
  ⟨HC6.out.mono ((Below.refl _ _).alloc (Nat.le_refl _) _), gb_any HG6.out (World.grownBy_alloc w6 _ none) (fun g e => by cases e), HZ6.out.allocOld z6 _, Blk.allocAt _ rfl,
   ⟨World.ownsRow_nil _ _ _ _, World.ownsRow_nil _ _ _ _, World.ownsRow_nil _ _ _ _, fun x y hx => (by cases hx), fun x y hx => (by cases hx), fun x y hx => (by cases hx)⟩, hkw, z6, by simp, unhide HB⟩
 clear HC6 HG6 HZ6
 generalize w6.heap.size = R at S0 ⊢
 go_loopw [4, 5] (fun va vb wr => ∃ (A : Nat) (r : ReqV) (h : ReqH), (A : Int) ≤ 1 + x6 ∧ va = .int .i64 A ∧ St w k a n c zs R r h wr ∧ Fst x1 x2 x3 x4 x5 x6 r ∧ r.types = [] ∧ r.items = [] ∧ r.pairs.length ≤ A * A) (fun va _ _ => 5 - (intOf va).toNat)
 case atStart => exact ⟨0, _, _, by omega, rfl, unhide S0, ⟨rfl, rfl, rfl, rfl, rfl⟩, rfl, rfl, Nat.le_refl _⟩
 case round =>
  clear S0
  obtain ⟨A, r, h, hA, rfl, s, f, ht, hi, hl⟩ := hrel
  have b5 : wr.cell? ⟨R, 5, none⟩ = some (.int .i64 (1 + x6)) := by rw [← f.cl]; exact (s.box 5 (by simp [reqCells])).1
  have HS := hide s
  have HF := hide f
  have HT := hide ht
  have HI := hide hi
  clear s f ht hi
  by_cases hlt : (A : Int) < 1 + x6
  case neg =>
   go_wp2_with fail
   go_cut [] (fun wc => ∃ r h, St w k a n c zs R r h wc ∧ Fst x1 x2 x3 x4 x5 x6 r ∧ r.types.length = 1 ∧ r.types.all TypeV.ok = true ∧ r.items = [] ∧ r.pairs.length ≤ 16)
   case first =>
    obtain ⟨i0, hi0, hz0, hz1, hz2⟩ := info_parts Tryz.dinfoType
    have b7 : wr.cell? ⟨R, 7, none⟩ = some (.slice h.at' r.types.length h.ct) := (HS.out.box 7 (by simp [reqCells])).1
    have hz := HS.out.hz
    have hRk := HS.out.hR
    have hle : r.types.length ≤ 8 := by rw [unhide HT]; exact Nat.zero_le _
    have S1 := unhide HS
    have hl16 : r.pairs.length ≤ 16 := by have := Nat.mul_le_mul (show A ≤ 4 by omega) (show A ≤ 4 by omega); omega
    clear b5 HS HB HC m2 m3 m4 m5 p1 q1 z1 z2 z3 z4 z5 z6
    refine wp_region_noPanic ?_
    refine wp_region_to (S := fun w' => w'.cell? ⟨R, 7, none⟩ = some (.slice h.at' r.types.length h.ct)) (T := [14]) (by kernel_rfl) b7 (fun hHeld => ?_)
    refine wpTo_tk (i := 0) (v := ?_) rfl (by kernel_rfl) (Or.inl ⟨by rfl, ?_⟩) (by assumption) ?_
    rotate_left
    · intro w hSw
      (try dsimp only at hSw)
      go_simp <;> with_reducible rfl
    refine wpTo_tk (i := 1) (v := ?_) rfl (by kernel_rfl) (Or.inl ⟨by rfl, ?_⟩) (by assumption) ?_
    rotate_left
    · intro w hSw
      (try dsimp only at hSw)
      go_simp <;> with_reducible rfl
    refine wpTo_tk (i := 2) (v := ?_) rfl (by kernel_rfl) (Or.inl ⟨by rfl, ?_⟩) (by assumption) ?_
    rotate_left
    · intro w hSw
      (try dsimp only at hSw)
      go_simp <;> with_reducible rfl
    try simp only [Act.put, zz1, zz2, zz3, zz4, zz5, zz6]
    refine wpTo_tk (i := 4) (v := ?_) rfl (by kernel_rfl) (Or.inl ⟨by rfl, ?_⟩) (by assumption) ?_
    rotate_left
    · intro w hSw
      (try dsimp only at hSw)
      go_simp <;> with_reducible rfl
    refine wpTo_tk (i := 7) (v := ?_) rfl (by kernel_rfl) (Or.inl ⟨by rfl, ?_⟩) (by assumption) ?_
    rotate_left
    · intro w hSw
      (try dsimp only at hSw)
      go_simp <;> with_reducible rfl
    try simp only [Act.put, zz1, zz2, zz3, zz4, zz5, zz6]
    refine wpTo_inv (fun a0 listed ai wi => ∃ (b3 b5 b6 b8 b9 b10 b11 b12 b13 b14 : Bool) (y1 : Int) (y2 : Int) (g5 : Nat) (y3 : Int) (g8 : Nat) (g11 : Nat) (g12 : Nat) (c12 : Nat), listed = #[true, true, true, b3, true, b5, b6, true, b8, b9, b10, b11, b12, b13, b14] ∧ ai = fillS b13 79 (.pointer (some ⟨R, 7, none⟩)) (fillS b12 78 (.slice (some ⟨g12, 0, none⟩) (r.types.length + 1) c12) (fillS b11 77 (.slice (some ⟨g11, 0, none⟩) 1 1) (fillS b10 76 (.agg #[.int .i64 7, .int .i64 12, .int .i64 10, .int .i64 11, .int .i64 y1, .int .i64 y2, .int .i64 y3]) (fillS b9 75 (.int .i64 y3) (fillS b8 74 (.slice (some ⟨g8, 0, none⟩) 2 2) (fillS b6 72 (.int .i64 y2) (fillS b5 71 (.slice (some ⟨g5, 0, none⟩) 3 3) (fillS b3 69 (.int .i64 y1) (a0))))))))) ∧ Hid (Tk b3 → 0 ≤ y1 ∧ y1 < 8) ∧ Hid (Tk b6 → y2 ∈ [60, 100, 140]) ∧ Hid (Tk b5 → Fk b6 → Lit wi g5 [60, 100, 140] ∧ R < g5) ∧ Hid (Tk b9 → y3 ∈ [9, 20]) ∧ Hid (Tk b8 → Fk b9 → Lit wi g8 [9, 20] ∧ R < g8) ∧ Hid (Fk b12 → St w k a n c zs R r h wi) ∧ Hid (Tk b11 → Fk b12 → Blk wi g11 (TypeV.cells ⟨7, 12, 10, 11, y1, y2, y3⟩)) ∧ Hid (Tk b12 → Fk b14 → wi.cell? ⟨R, 7, none⟩ = some (.slice h.at' r.types.length h.ct) ∧ wi.frozen? ⟨R, 7, none⟩ = false ∧ St w k a n c zs R { r with types := r.types ++ [(⟨7, 12, 10, 11, y1, y2, y3⟩ : TypeV)] } { h with at' := some ⟨g12, 0, none⟩, ct := c12 } (wi.setCell ⟨R, 7, none⟩ (.slice (some ⟨g12, 0, none⟩) (r.types.length + 1) c12))) ∧ Hid (Tk b14 → St w k a n c zs R { r with types := r.types ++ [(⟨7, 12, 10, 11, y1, y2, y3⟩ : TypeV)] } { h with at' := some ⟨g12, 0, none⟩, ct := c12 } wi) ∧ Hid (Tk b6 → Tk b3 ∧ Tk b5) ∧ Hid (Tk b9 → Tk b3 ∧ Tk b5 ∧ Tk b6 ∧ Tk b8) ∧ Hid (Tk b10 → Tk b3 ∧ Tk b5 ∧ Tk b6 ∧ Tk b8 ∧ Tk b9) ∧ Hid (Tk b11 → Tk b3 ∧ Tk b5 ∧ Tk b6 ∧ Tk b8 ∧ Tk b9 ∧ Tk b10) ∧ Hid (Tk b12 → Tk b3 ∧ Tk b5 ∧ Tk b6 ∧ Tk b8 ∧ Tk b9 ∧ Tk b10 ∧ Tk b11) ∧ Hid (Tk b13 → Tk b3 ∧ Tk b5 ∧ Tk b6 ∧ Tk b8 ∧ Tk b9 ∧ Tk b10 ∧ Tk b11 ∧ Tk b12) ∧ Hid (Tk b14 → Tk b3 ∧ Tk b5 ∧ Tk b6 ∧ Tk b8 ∧ Tk b9 ∧ Tk b10 ∧ Tk b11 ∧ Tk b12 ∧ Tk b13)) ⟨false, false, false, false, false, false, false, false, false, false, 0, 0, 0, 0, 0, 0, 0, 0, rfl, by simp only [fillS_false], (fun h => by cases h), (fun h => by cases h), (fun h _ => by cases h), (fun h => by cases h), (fun h _ => by cases h), (fun _ => St.drew S1), (fun h _ => by cases h), (fun h _ => by cases h), (fun h => by cases h), (fun h => by cases h), (fun h => by cases h), (fun h => by cases h), (fun h => by cases h), (fun h => by cases h), (fun h => by cases h), (fun h => by cases h)⟩ ?hS ?hT ?step ?fin _ (by decide)
    case hS =>
     rintro listed ai wi ⟨b3, b5, b6, b8, b9, b10, b11, b12, b13, b14, y1, y2, g5, y3, g8, g11, g12, c12, rfl, ha, FY3, FY6, FL5, FY9, FL8, FS, FA, FD, FP, FC6, FC9, FC10, FC11, FC12, FC13, FC14⟩ hTf
     have q14 : Fk b14 := (by simpa using hTf 14 (by simp) : b14 = false)
     cases b12
     · exact ((FS.out rfl).box 7 (by simp [reqCells])).1
     · exact (FD.out rfl q14).1
    case hT =>
     rintro listed ai wi ⟨b3, b5, b6, b8, b9, b10, b11, b12, b13, b14, y1, y2, g5, y3, g8, g11, g12, c12, rfl, ha, FY3, FY6, FL5, FY9, FL8, FS, FA, FD, FP, FC6, FC9, FC10, FC11, FC12, FC13, FC14⟩ f hf hlf
     obtain rfl : f = 14 := by simpa using hf
     obtain rfl : b14 = true := by simpa using hlf
     obtain ⟨rfl, rfl, rfl, rfl, rfl, rfl, rfl, rfl, rfl⟩ := FC14.out rfl
     decide
    case step =>
     rintro listed ai wi i o ⟨b3, b5, b6, b8, b9, b10, b11, b12, b13, b14, y1, y2, g5, y3, g8, g11, g12, c12, rfl, ha, FY3, FY6, FL5, FY9, FL8, FS, FA, FD, FP, FC6, FC9, FC10, FC11, FC12, FC13, FC14⟩ ho hl hall
     have hi : i < 15 := (Array.getElem?_eq_some_iff.1 ho).1
     obtain rfl | rfl | rfl | rfl | rfl | rfl | rfl | rfl | rfl | rfl | rfl | rfl | rfl | rfl | rfl : i = 0 ∨ i = 1 ∨ i = 2 ∨ i = 3 ∨ i = 4 ∨ i = 5 ∨ i = 6 ∨ i = 7 ∨ i = 8 ∨ i = 9 ∨ i = 10 ∨ i = 11 ∨ i = 12 ∨ i = 13 ∨ i = 14 := by omega
     · exact absurd hl (by simp)
     · exact absurd hl (by simp)
     · exact absurd hl (by simp)
     · obtain rfl := Option.some.inj ho
       obtain rfl : b3 = false := by simpa using hl
       obtain rfl : b6 = false := Tk_no (fun p => by have h8 := FC6.out p; simp [Tk] at h8)
       obtain rfl : b9 = false := Tk_no (fun p => by have h8 := FC9.out p; simp [Tk] at h8)
       obtain rfl : b10 = false := Tk_no (fun p => by have h8 := FC10.out p; simp [Tk] at h8)
       obtain rfl : b11 = false := Tk_no (fun p => by have h8 := FC11.out p; simp [Tk] at h8)
       obtain rfl : b12 = false := Tk_no (fun p => by have h8 := FC12.out p; simp [Tk] at h8)
       obtain rfl : b13 = false := Tk_no (fun p => by have h8 := FC13.out p; simp [Tk] at h8)
       obtain rfl : b14 = false := Tk_no (fun p => by have h8 := FC14.out p; simp [Tk] at h8)
       clear ho hl hall hi
       simp only [fillS, pickS_true, pickS_false, Act.put, zz7, zz8, zz9, zz10, zz11, zz1, zz2, zz3, zz4, zz5, zz6] at ha
       subst ha
       refine wpOp_stepS (o := _) rfl (fun K hK => ?_)
       have si := FS.out rfl
       have h1 := si.hk; have h2 := si.hR
       go_simp
       refine (below_st (w := w) (a := a) (n := n) (c := c) (zs := zs) (R := R) (r := r) (h := h) 8 si (by omega) (by omega)).mono ?_
       rintro e wz ⟨yn, rfl, py, qy, sz, gz⟩
       go_wp2_with fail
       refine hK.out _ _ ?_
       exact ⟨true, b5, false, b8, false, false, false, false, false, false, yn, y2, g5, y3, g8, g11, g12, c12, rfl, by simp only [fillS, pickS_true, pickS_false, Act.put, zz7, zz8, zz9, zz10, zz11, zz1, zz2, zz3, zz4, zz5, zz6], (fun p3 => ⟨py, qy⟩), (fun p6 => (by cases p6)), (fun p5 q6 => ⟨Lit.call gz (unhide FL5 p5 q6).1 (by have := (unhide FL5 p5 q6).2; omega), (unhide FL5 p5 q6).2⟩), (fun p9 => (by cases p9)), (fun p8 q9 => ⟨Lit.call gz (unhide FL8 p8 q9).1 (by have := (unhide FL8 p8 q9).2; omega), (unhide FL8 p8 q9).2⟩), (fun q12 => sz), (fun p11 q12 => (by cases p11)), (fun p12 q14 => (by cases p12)), (fun p14 => (by cases p14)), (fun p6 => (by cases p6)), (fun p9 => (by cases p9)), (fun p10 => (by cases p10)), (fun p11 => (by cases p11)), (fun p12 => (by cases p12)), (fun p13 => (by cases p13)), (fun p14 => (by cases p14))⟩
     · exact absurd hl (by simp)
     · obtain rfl := Option.some.inj ho
       obtain rfl : b5 = false := by simpa using hl
       obtain rfl : b6 = false := Tk_no (fun p => by have h8 := FC6.out p; simp [Tk] at h8)
       obtain rfl : b9 = false := Tk_no (fun p => by have h8 := FC9.out p; simp [Tk] at h8)
       obtain rfl : b10 = false := Tk_no (fun p => by have h8 := FC10.out p; simp [Tk] at h8)
       obtain rfl : b11 = false := Tk_no (fun p => by have h8 := FC11.out p; simp [Tk] at h8)
       obtain rfl : b12 = false := Tk_no (fun p => by have h8 := FC12.out p; simp [Tk] at h8)
       obtain rfl : b13 = false := Tk_no (fun p => by have h8 := FC13.out p; simp [Tk] at h8)
       obtain rfl : b14 = false := Tk_no (fun p => by have h8 := FC14.out p; simp [Tk] at h8)
       clear ho hl hall hi
       simp only [fillS, pickS_true, pickS_false, Act.put, zz7, zz8, zz9, zz10, zz11, zz1, zz2, zz3, zz4, zz5, zz6] at ha
       subst ha
       refine wpOp_stepS (o := _) rfl (fun K hK => ?_)
       have si := FS.out rfl
       go_simp
       refine hK.out _ _ ?_
       exact ⟨b3, true, false, b8, false, false, false, false, false, false, y1, y2, wi.heap.size, y3, g8, g11, g12, c12, rfl, by simp only [fillS, pickS_true, pickS_false, Act.put, zz7, zz8, zz9, zz10, zz11, zz1, zz2, zz3, zz4, zz5, zz6], (fun p3 => (unhide FY3 p3)), (fun p6 => (by cases p6)), (fun p5 q6 => ⟨Lit.new (w := wi) (ls := [60, 100, 140]) rfl, si.hz⟩), (fun p9 => (by cases p9)), (fun p8 q9 => ⟨(unhide FL8 p8 q9).1.alloc, (unhide FL8 p8 q9).2⟩), (fun q12 => ((unhide FS q12).alloc _)), (fun p11 q12 => (by cases p11)), (fun p12 q14 => (by cases p12)), (fun p14 => (by cases p14)), (fun p6 => (by cases p6)), (fun p9 => (by cases p9)), (fun p10 => (by cases p10)), (fun p11 => (by cases p11)), (fun p12 => (by cases p12)), (fun p13 => (by cases p13)), (fun p14 => (by cases p14))⟩
     · obtain rfl := Option.some.inj ho
       obtain rfl : b6 = false := by simpa using hl
       obtain rfl : b5 = true := by simpa using hall ⟨5, .data⟩ (by simp) rfl
       obtain rfl : b3 = true := by simpa using hall ⟨3, .chain⟩ (by simp) rfl
       obtain rfl : b9 = false := Tk_no (fun p => by have h8 := FC9.out p; simp [Tk] at h8)
       obtain rfl : b10 = false := Tk_no (fun p => by have h8 := FC10.out p; simp [Tk] at h8)
       obtain rfl : b11 = false := Tk_no (fun p => by have h8 := FC11.out p; simp [Tk] at h8)
       obtain rfl : b12 = false := Tk_no (fun p => by have h8 := FC12.out p; simp [Tk] at h8)
       obtain rfl : b13 = false := Tk_no (fun p => by have h8 := FC13.out p; simp [Tk] at h8)
       obtain rfl : b14 = false := Tk_no (fun p => by have h8 := FC14.out p; simp [Tk] at h8)
       clear ho hl hall hi
       simp only [fillS, pickS_true, pickS_false, Act.put, zz7, zz8, zz9, zz10, zz11, zz1, zz2, zz3, zz4, zz5, zz6] at ha
       subst ha
       refine wpOp_stepS (o := _) rfl (fun K hK => ?_)
       have si := FS.out rfl
       have h1 := si.hk; have h2 := si.hR
       have l9 := FL5.out rfl rfl
       have l8 := l9.2
       go_simp
       refine (pick_st (w := w) (a := a) (n := n) (c := c) (zs := zs) (R := R) (r := r) (h := h) [60, 100, 140] si l9.1 (by decide) (by decide) (by omega)).mono ?_
       rintro e wz ⟨yn, rfl, my, sz, gz⟩
       go_wp2_with fail
       refine hK.out _ _ ?_
       exact ⟨true, true, true, b8, false, false, false, false, false, false, y1, yn, g5, y3, g8, g11, g12, c12, rfl, by simp only [fillS, pickS_true, pickS_false, Act.put, zz7, zz8, zz9, zz10, zz11, zz1, zz2, zz3, zz4, zz5, zz6], (fun p3 => (unhide FY3 p3)), (fun p6 => my), (fun p5 q6 => (by cases q6)), (fun p9 => (by cases p9)), (fun p8 q9 => ⟨Lit.call gz (unhide FL8 p8 q9).1 (by have := (unhide FL8 p8 q9).2; omega), (unhide FL8 p8 q9).2⟩), (fun q12 => sz), (fun p11 q12 => (by cases p11)), (fun p12 q14 => (by cases p12)), (fun p14 => (by cases p14)), (fun p6 => ⟨rfl, rfl⟩), (fun p9 => (by cases p9)), (fun p10 => (by cases p10)), (fun p11 => (by cases p11)), (fun p12 => (by cases p12)), (fun p13 => (by cases p13)), (fun p14 => (by cases p14))⟩
     · exact absurd hl (by simp)
     · obtain rfl := Option.some.inj ho
       obtain rfl : b8 = false := by simpa using hl
       obtain rfl : b9 = false := Tk_no (fun p => by have h8 := FC9.out p; simp [Tk] at h8)
       obtain rfl : b10 = false := Tk_no (fun p => by have h8 := FC10.out p; simp [Tk] at h8)
       obtain rfl : b11 = false := Tk_no (fun p => by have h8 := FC11.out p; simp [Tk] at h8)
       obtain rfl : b12 = false := Tk_no (fun p => by have h8 := FC12.out p; simp [Tk] at h8)
       obtain rfl : b13 = false := Tk_no (fun p => by have h8 := FC13.out p; simp [Tk] at h8)
       obtain rfl : b14 = false := Tk_no (fun p => by have h8 := FC14.out p; simp [Tk] at h8)
       clear ho hl hall hi
       simp only [fillS, pickS_true, pickS_false, Act.put, zz7, zz8, zz9, zz10, zz11, zz1, zz2, zz3, zz4, zz5, zz6] at ha
       subst ha
       refine wpOp_stepS (o := _) rfl (fun K hK => ?_)
       have si := FS.out rfl
       go_simp
       refine hK.out _ _ ?_
       exact ⟨b3, b5, b6, true, false, false, false, false, false, false, y1, y2, g5, y3, wi.heap.size, g11, g12, c12, rfl, by simp only [fillS, pickS_true, pickS_false, Act.put, zz7, zz8, zz9, zz10, zz11, zz1, zz2, zz3, zz4, zz5, zz6], (fun p3 => (unhide FY3 p3)), (fun p6 => (unhide FY6 p6)), (fun p5 q6 => ⟨(unhide FL5 p5 q6).1.alloc, (unhide FL5 p5 q6).2⟩), (fun p9 => (by cases p9)), (fun p8 q9 => ⟨Lit.new (w := wi) (ls := [9, 20]) rfl, si.hz⟩), (fun q12 => ((unhide FS q12).alloc _)), (fun p11 q12 => (by cases p11)), (fun p12 q14 => (by cases p12)), (fun p14 => (by cases p14)), (fun p6 => (unhide FC6 p6)), (fun p9 => (by cases p9)), (fun p10 => (by cases p10)), (fun p11 => (by cases p11)), (fun p12 => (by cases p12)), (fun p13 => (by cases p13)), (fun p14 => (by cases p14))⟩
     · obtain rfl := Option.some.inj ho
       obtain rfl : b9 = false := by simpa using hl
       obtain rfl : b8 = true := by simpa using hall ⟨8, .data⟩ (by simp) rfl
       obtain rfl : b6 = true := by simpa using hall ⟨6, .chain⟩ (by simp) rfl
       obtain ⟨rfl, rfl⟩ := FC6.out rfl
       obtain rfl : b10 = false := Tk_no (fun p => by have h8 := FC10.out p; simp [Tk] at h8)
       obtain rfl : b11 = false := Tk_no (fun p => by have h8 := FC11.out p; simp [Tk] at h8)
       obtain rfl : b12 = false := Tk_no (fun p => by have h8 := FC12.out p; simp [Tk] at h8)
       obtain rfl : b13 = false := Tk_no (fun p => by have h8 := FC13.out p; simp [Tk] at h8)
       obtain rfl : b14 = false := Tk_no (fun p => by have h8 := FC14.out p; simp [Tk] at h8)
       clear ho hl hall hi
       simp only [fillS, pickS_true, pickS_false, Act.put, zz7, zz8, zz9, zz10, zz11, zz1, zz2, zz3, zz4, zz5, zz6] at ha
       subst ha
       refine wpOp_stepS (o := _) rfl (fun K hK => ?_)
       have si := FS.out rfl
       have h1 := si.hk; have h2 := si.hR
       have l9 := FL8.out rfl rfl
       have l8 := l9.2
       go_simp
       refine (pick_st (w := w) (a := a) (n := n) (c := c) (zs := zs) (R := R) (r := r) (h := h) [9, 20] si l9.1 (by decide) (by decide) (by omega)).mono ?_
       rintro e wz ⟨yn, rfl, my, sz, gz⟩
       go_wp2_with fail
       refine hK.out _ _ ?_
       exact ⟨true, true, true, true, true, false, false, false, false, false, y1, y2, g5, yn, g8, g11, g12, c12, rfl, by simp only [fillS, pickS_true, pickS_false, Act.put, zz7, zz8, zz9, zz10, zz11, zz1, zz2, zz3, zz4, zz5, zz6], (fun p3 => (unhide FY3 p3)), (fun p6 => (unhide FY6 p6)), (fun p5 q6 => (by cases q6)), (fun p9 => my), (fun p8 q9 => (by cases q9)), (fun q12 => sz), (fun p11 q12 => (by cases p11)), (fun p12 q14 => (by cases p12)), (fun p14 => (by cases p14)), (fun p6 => (unhide FC6 p6)), (fun p9 => ⟨rfl, rfl, rfl, rfl⟩), (fun p10 => (by cases p10)), (fun p11 => (by cases p11)), (fun p12 => (by cases p12)), (fun p13 => (by cases p13)), (fun p14 => (by cases p14))⟩
     · obtain rfl := Option.some.inj ho
       obtain rfl : b10 = false := by simpa using hl
       obtain rfl : b3 = true := by simpa using hall ⟨3, .data⟩ (by simp) rfl
       obtain rfl : b6 = true := by simpa using hall ⟨6, .data⟩ (by simp) rfl
       obtain ⟨_, rfl⟩ := FC6.out rfl
       obtain rfl : b9 = true := by simpa using hall ⟨9, .data⟩ (by simp) rfl
       obtain ⟨_, _, _, rfl⟩ := FC9.out rfl
       obtain rfl : b11 = false := Tk_no (fun p => by have h8 := FC11.out p; simp [Tk] at h8)
       obtain rfl : b12 = false := Tk_no (fun p => by have h8 := FC12.out p; simp [Tk] at h8)
       obtain rfl : b13 = false := Tk_no (fun p => by have h8 := FC13.out p; simp [Tk] at h8)
       obtain rfl : b14 = false := Tk_no (fun p => by have h8 := FC14.out p; simp [Tk] at h8)
       clear ho hl hall hi
       simp only [fillS, pickS_true, pickS_false, Act.put, zz7, zz8, zz9, zz10, zz11, zz1, zz2, zz3, zz4, zz5, zz6] at ha
       subst ha
       refine wpOp_stepS (o := _) rfl (fun K hK => ?_)
       go_simp
       refine hK.out _ _ ?_
       exact ⟨true, true, true, true, true, true, false, false, false, false, y1, y2, g5, y3, g8, g11, g12, c12, rfl, by simp only [fillS, pickS_true, pickS_false, Act.put, zz7, zz8, zz9, zz10, zz11, zz1, zz2, zz3, zz4, zz5, zz6], (fun p3 => (unhide FY3 p3)), (fun p6 => (unhide FY6 p6)), (fun p5 q6 => (by cases q6)), (fun p9 => (unhide FY9 p9)), (fun p8 q9 => (by cases q9)), (fun q12 => (unhide FS q12)), (fun p11 q12 => (by cases p11)), (fun p12 q14 => (by cases p12)), (fun p14 => (by cases p14)), (fun p6 => (unhide FC6 p6)), (fun p9 => (unhide FC9 p9)), (fun p10 => ⟨rfl, rfl, rfl, rfl, rfl⟩), (fun p11 => (by cases p11)), (fun p12 => (by cases p12)), (fun p13 => (by cases p13)), (fun p14 => (by cases p14))⟩
     · obtain rfl := Option.some.inj ho
       obtain rfl : b11 = false := by simpa using hl
       obtain rfl : b10 = true := by simpa using hall ⟨10, .data⟩ (by simp) rfl
       obtain ⟨rfl, rfl, rfl, rfl, rfl⟩ := FC10.out rfl
       obtain rfl : b12 = false := Tk_no (fun p => by have h8 := FC12.out p; simp [Tk] at h8)
       obtain rfl : b13 = false := Tk_no (fun p => by have h8 := FC13.out p; simp [Tk] at h8)
       obtain rfl : b14 = false := Tk_no (fun p => by have h8 := FC14.out p; simp [Tk] at h8)
       clear ho hl hall hi
       simp only [fillS, pickS_true, pickS_false, Act.put, zz7, zz8, zz9, zz10, zz11, zz1, zz2, zz3, zz4, zz5, zz6] at ha
       subst ha
       refine wpOp_stepS (o := _) rfl (fun K hK => ?_)
       have si := FS.out rfl
       go_simp
       refine hK.out _ _ ?_
       exact ⟨true, true, true, true, true, true, true, false, false, false, y1, y2, g5, y3, g8, wi.heap.size, g12, c12, rfl, by simp only [fillS, pickS_true, pickS_false, Act.put, zz7, zz8, zz9, zz10, zz11, zz1, zz2, zz3, zz4, zz5, zz6], (fun p3 => (unhide FY3 p3)), (fun p6 => (unhide FY6 p6)), (fun p5 q6 => (by cases q6)), (fun p9 => (unhide FY9 p9)), (fun p8 q9 => (by cases q9)), (fun q12 => ((unhide FS q12).alloc _)), (fun p11 q12 => Blk.allocAt (TypeV.cells ⟨7, 12, 10, 11, y1, y2, y3⟩) (by rfl)), (fun p12 q14 => (by cases p12)), (fun p14 => (by cases p14)), (fun p6 => (unhide FC6 p6)), (fun p9 => (unhide FC9 p9)), (fun p10 => (unhide FC10 p10)), (fun p11 => ⟨rfl, rfl, rfl, rfl, rfl, rfl⟩), (fun p12 => (by cases p12)), (fun p13 => (by cases p13)), (fun p14 => (by cases p14))⟩
     · obtain rfl := Option.some.inj ho
       obtain rfl : b12 = false := by simpa using hl
       obtain rfl : b11 = true := by simpa using hall ⟨11, .data⟩ (by simp) rfl
       obtain ⟨rfl, rfl, rfl, rfl, rfl, rfl⟩ := FC11.out rfl
       obtain rfl : b13 = false := Tk_no (fun p => by have h8 := FC13.out p; simp [Tk] at h8)
       obtain rfl : b14 = false := Tk_no (fun p => by have h8 := FC14.out p; simp [Tk] at h8)
       clear ho hl hall hi
       simp only [fillS, pickS_true, pickS_false, Act.put, zz7, zz8, zz9, zz10, zz11, zz1, zz2, zz3, zz4, zz5, zz6] at ha
       subst ha
       refine wpOp_stepS (o := _) rfl (fun K hK => ?_)
       have si := FS.out rfl
       have h3 := si.hz
       have k9 := FA.out rfl rfl
       refine step_append_lies _ (by rfl) _ _ 38 (by rfl) (R + 1) 54 i0 (.agg #[.int .i64 0, .int .i64 0, .int .i64 0, .int .i64 0, .int .i64 0, .int .i64 0, .int .i64 0]) 7 56 Tryz.underlying38 hi0 hz0 hz1 hz2 rfl (by omega) (.slice h.at' r.types.length h.ct) r.types.length (r.types.flatMap TypeV.cells) (by rfl) si.lst.ot ⟨g11, 0, none⟩ 1 1 (TypeV.cells ⟨7, 12, 10, 11, y1, y2, y3⟩) (by rfl) rfl (Blk.news k9) (by simp [TypeV.cells, Value.oneCell']) (by omega) (by unfold maxLen; omega) (by omega) (by omega) wi.heap.size rfl ?_
       intro gn cn wz hown hgrow hat hlt
       have tT := si.aftType hgrow
       have sT := si.appType [⟨7, 12, 10, 11, y1, y2, y3⟩] hown hgrow hat (Nat.le_refl _)
       refine hK.out _ _ ?_
       exact ⟨true, true, true, true, true, true, true, true, false, false, y1, y2, g5, y3, g8, g11, gn, cn, rfl, by simp only [fillS, pickS_true, pickS_false, Act.put, zz7, zz8, zz9, zz10, zz11, zz1, zz2, zz3, zz4, zz5, zz6], (fun p3 => (unhide FY3 p3)), (fun p6 => (unhide FY6 p6)), (fun p5 q6 => (by cases q6)), (fun p9 => (unhide FY9 p9)), (fun p8 q9 => (by cases q9)), (fun q12 => (by cases q12)), (fun p11 q12 => (by cases q12)), (fun p12 q14 => ⟨tT.1, tT.2, sT⟩), (fun p14 => (by cases p14)), (fun p6 => (unhide FC6 p6)), (fun p9 => (unhide FC9 p9)), (fun p10 => (unhide FC10 p10)), (fun p11 => (unhide FC11 p11)), (fun p12 => ⟨rfl, rfl, rfl, rfl, rfl, rfl, rfl⟩), (fun p13 => (by cases p13)), (fun p14 => (by cases p14))⟩
     · obtain rfl := Option.some.inj ho
       obtain rfl : b13 = false := by simpa using hl
       obtain rfl : b3 = true := by simpa using hall ⟨3, .phase⟩ (by simp) rfl
       obtain rfl : b5 = true := by simpa using hall ⟨5, .phase⟩ (by simp) rfl
       obtain rfl : b6 = true := by simpa using hall ⟨6, .phase⟩ (by simp) rfl
       obtain rfl : b8 = true := by simpa using hall ⟨8, .phase⟩ (by simp) rfl
       obtain rfl : b9 = true := by simpa using hall ⟨9, .phase⟩ (by simp) rfl
       obtain rfl : b10 = true := by simpa using hall ⟨10, .phase⟩ (by simp) rfl
       obtain rfl : b11 = true := by simpa using hall ⟨11, .phase⟩ (by simp) rfl
       obtain rfl : b12 = true := by simpa using hall ⟨12, .phase⟩ (by simp) rfl
       obtain rfl : b14 = false := Tk_no (fun p => by have h8 := FC14.out p; simp [Tk] at h8)
       clear ho hl hall hi
       simp only [fillS, pickS_true, pickS_false, Act.put, zz7, zz8, zz9, zz10, zz11, zz1, zz2, zz3, zz4, zz5, zz6] at ha
       subst ha
       refine wpOp_stepS (o := _) rfl (fun K hK => ?_)
       go_simp
       refine hK.out _ _ ?_
       exact ⟨true, true, true, true, true, true, true, true, true, false, y1, y2, g5, y3, g8, g11, g12, c12, rfl, by simp only [fillS, pickS_true, pickS_false, Act.put, zz7, zz8, zz9, zz10, zz11, zz1, zz2, zz3, zz4, zz5, zz6], (fun p3 => (unhide FY3 p3)), (fun p6 => (unhide FY6 p6)), (fun p5 q6 => (by cases q6)), (fun p9 => (unhide FY9 p9)), (fun p8 q9 => (by cases q9)), (fun q12 => (by cases q12)), (fun p11 q12 => (by cases q12)), (fun p12 q14 => (unhide FD p12 q14)), (fun p14 => (by cases p14)), (fun p6 => (unhide FC6 p6)), (fun p9 => (unhide FC9 p9)), (fun p10 => (unhide FC10 p10)), (fun p11 => (unhide FC11 p11)), (fun p12 => (unhide FC12 p12)), (fun p13 => ⟨rfl, rfl, rfl, rfl, rfl, rfl, rfl, rfl⟩), (fun p14 => (by cases p14))⟩
     · obtain rfl := Option.some.inj ho
       obtain rfl : b14 = false := by simpa using hl
       obtain rfl : b13 = true := by simpa using hall ⟨13, .data⟩ (by simp) rfl
       obtain ⟨rfl, rfl, rfl, rfl, rfl, rfl, rfl, rfl⟩ := FC13.out rfl
       clear ho hl hall hi
       simp only [fillS, pickS_true, pickS_false, Act.put, zz7, zz8, zz9, zz10, zz11, zz1, zz2, zz3, zz4, zz5, zz6] at ha
       subst ha
       refine wpOp_stepS (o := _) rfl (fun K hK => ?_)
       obtain ⟨kc, kf, ks⟩ := FD.out rfl rfl
       go_simp
       refine hK.out _ _ ?_
       exact ⟨true, true, true, true, true, true, true, true, true, true, y1, y2, g5, y3, g8, g11, g12, c12, rfl, by simp only [fillS, pickS_true, pickS_false, Act.put, zz7, zz8, zz9, zz10, zz11, zz1, zz2, zz3, zz4, zz5, zz6], (fun p3 => (unhide FY3 p3)), (fun p6 => (unhide FY6 p6)), (fun p5 q6 => (by cases q6)), (fun p9 => (unhide FY9 p9)), (fun p8 q9 => (by cases q9)), (fun q12 => (by cases q12)), (fun p11 q12 => (by cases q12)), (fun p12 q14 => (by cases q14)), (fun p14 => ks), (fun p6 => (unhide FC6 p6)), (fun p9 => (unhide FC9 p9)), (fun p10 => (unhide FC10 p10)), (fun p11 => (unhide FC11 p11)), (fun p12 => (unhide FC12 p12)), (fun p13 => (unhide FC13 p13)), (fun p14 => ⟨rfl, rfl, rfl, rfl, rfl, rfl, rfl, rfl, rfl⟩)⟩
    case fin =>
     rintro listed ai wi ⟨b3, b5, b6, b8, b9, b10, b11, b12, b13, b14, y1, y2, g5, y3, g8, g11, g12, c12, rfl, ha, FY3, FY6, FL5, FY9, FL8, FS, FA, FD, FP, FC6, FC9, FC10, FC11, FC12, FC13, FC14⟩ hall
     obtain rfl : b3 = true := by
      have h9 := hall 3 _ rfl (by
       intro e he hbd
       simp at he
       subst he
       simp
       )
      simpa using h9
     obtain rfl : b5 = true := by
      have h9 := hall 5 _ rfl (by
       intro e he hbd
       simp at he
       )
      simpa using h9
     obtain rfl : b6 = true := by
      have h9 := hall 6 _ rfl (by
       intro e he hbd
       simp at he
       rcases he with rfl | rfl | rfl <;> simp
       )
      simpa using h9
     obtain rfl : b8 = true := by
      have h9 := hall 8 _ rfl (by
       intro e he hbd
       simp at he
       )
      simpa using h9
     obtain rfl : b9 = true := by
      have h9 := hall 9 _ rfl (by
       intro e he hbd
       simp at he
       rcases he with rfl | rfl | rfl <;> simp
       )
      simpa using h9
     obtain rfl : b10 = true := by
      have h9 := hall 10 _ rfl (by
       intro e he hbd
       simp at he
       rcases he with rfl | rfl | rfl <;> simp
       )
      simpa using h9
     obtain rfl : b11 = true := by
      have h9 := hall 11 _ rfl (by
       intro e he hbd
       simp at he
       subst he
       simp
       )
      simpa using h9
     obtain rfl : b12 = true := by
      have h9 := hall 12 _ rfl (by
       intro e he hbd
       simp at he
       rcases he with rfl | rfl | rfl <;> simp
       )
      simpa using h9
     obtain rfl : b13 = true := by
      have h9 := hall 13 _ rfl (by
       intro e he hbd
       simp at he
       rcases he with rfl | rfl | rfl | rfl | rfl | rfl | rfl | rfl | rfl | rfl | rfl | rfl | rfl <;> simp
       )
      simpa using h9
     obtain rfl : b14 = true := by
      have h9 := hall 14 _ rfl (by
       intro e he hbd
       simp at he
       rcases he with rfl | rfl | rfl | rfl | rfl | rfl | rfl | rfl | rfl | rfl | rfl | rfl | rfl | rfl | rfl | rfl <;> simp
       )
      simpa using h9
     clear hall
     simp only [fillS, pickS_true, pickS_false, Act.put, zz7, zz8, zz9, zz10, zz11, zz1, zz2, zz3, zz4, zz5, zz6] at ha
     subst ha
     refine NoPanic.normal ?_
     have IP := hide (FP.out rfl)
     obtain ⟨py1, qy1⟩ := FY3.out rfl
     have my2 := FY6.out rfl
     have my3 := FY9.out rfl
     clear FS FA FD FP FC6 FC9 FC10 FC11 FC12 FC13 FC14 FL5 FL8
     go_wp2_with fail
     go_meet
     case rel => exact rel12 HF.out HT.out HI.out hl16 IP.out (typ0 py1 qy1 my2 my3)
   case rest =>
    clear HS HF HT HI b5
    obtain ⟨r, h, s, f, hl1, hok, hi, hp⟩ := hcut
    have HF := hide f
    have HO := hide hok
    have HI := hide hi
    have HL := hide hl1
    clear f hok hi hl1
    go_wp2_with fail
    refine (below_st 5 s (by omega) (by omega)).mono ?_
    rintro e w7 ⟨x7, rfl, p7, q7, s7, g7⟩
    have HS := hide s7
    clear s s7 g7
    go_wp2_with fail
    go_loopw [7] (fun vi wr => ∃ (i : Nat) (r : ReqV) (h : ReqH), (i : Int) ≤ x7 ∧ vi = .int .i64 i ∧ St w k a n c zs R r h wr ∧ Fst x1 x2 x3 x4 x5 x6 r ∧ r.types.length = 1 + i ∧ r.types.all TypeV.ok = true ∧ r.items = [] ∧ r.pairs.length ≤ 16) (fun vi _ => 5 - (intOf vi).toNat)
    case atStart => exact ⟨0, r, h, by omega, rfl, unhide HS, unhide HF, unhide HL, unhide HO, unhide HI, hp⟩
    case round =>
     clear HS HF HL HO HI hp
     obtain ⟨i, r, h, hix, rfl, s, f, hl1, hok, hi, hp⟩ := hrel
     have HF := hide f
     have HO := hide hok
     have HI := hide hi
     have HL := hide hl1
     have hle : r.types.length ≤ 8 := by omega
     clear f hok hi hl1
     by_cases hlt3 : (i : Int) < x7
     · obtain ⟨i0, hi0, hz0, hz1, hz2⟩ := info_parts Tryz.dinfoType
       have b7 : wr.cell? ⟨R, 7, none⟩ = some (.slice h.at' r.types.length h.ct) := (s.box 7 (by simp [reqCells])).1
       have hz := s.hz
       have hRk := s.hR
       go_wp2_with fail
       refine wp_region_noPanic ?_
       refine wp_region_to (S := fun w' => w'.cell? ⟨R, 7, none⟩ = some (.slice h.at' r.types.length h.ct)) (T := [23, 24, 25]) (by kernel_rfl) b7 (fun hHeld => ?_)
       refine wpTo_tk (i := 0) (v := ?_) rfl (by kernel_rfl) (Or.inl ⟨by rfl, ?_⟩) (by assumption) ?_
       rotate_left
       · intro w hSw
         (try dsimp only at hSw)
         go_simp <;> with_reducible rfl
       refine wpTo_tk (i := 1) (v := ?_) rfl (by kernel_rfl) (Or.inl ⟨by rfl, ?_⟩) (by assumption) ?_
       rotate_left
       · intro w hSw
         (try dsimp only at hSw)
         go_simp <;> with_reducible rfl
       try simp only [Act.put, zz1, zz2, zz3, zz4, zz5, zz6]
       refine wpTo_tk (i := 2) (v := ?_) rfl (by kernel_rfl) (Or.inl ⟨by rfl, ?_⟩) (by assumption) ?_
       rotate_left
       · intro w hSw
         (try dsimp only at hSw)
         go_simp <;> with_reducible rfl
       refine wpTo_tk (i := 3) (v := ?_) rfl (by kernel_rfl) (Or.inl ⟨by rfl, ?_⟩) (by assumption) ?_
       rotate_left
       · intro w hSw
         (try dsimp only at hSw)
         go_simp <;> with_reducible rfl
       try simp only [Act.put, zz1, zz2, zz3, zz4, zz5, zz6]
       rw [wrap_small (x := 10 + (i : Int)) (by omega) (by omega)]
       refine wpTo_tk (i := 4) (v := ?_) rfl (by kernel_rfl) (Or.inl ⟨by rfl, ?_⟩) (by assumption) ?_
       rotate_left
       · intro w hSw
         (try dsimp only at hSw)
         go_simp <;> with_reducible rfl
       refine wpTo_tk (i := 7) (v := ?_) rfl (by kernel_rfl) (Or.inl ⟨by rfl, ?_⟩) (by assumption) ?_
       rotate_left
       · intro w hSw
         (try dsimp only at hSw)
         go_simp <;> with_reducible rfl
       try simp only [Act.put, zz1, zz2, zz3, zz4, zz5, zz6]
       refine wpTo_tk (i := 10) (v := ?_) rfl (by kernel_rfl) (Or.inl ⟨by rfl, ?_⟩) (by assumption) ?_
       rotate_left
       · intro w hSw
         (try dsimp only at hSw)
         go_simp <;> with_reducible rfl
       refine wpTo_tk (i := 13) (v := ?_) rfl (by kernel_rfl) (Or.inl ⟨by rfl, ?_⟩) (by assumption) ?_
       rotate_left
       · intro w hSw
         (try dsimp only at hSw)
         go_simp <;> with_reducible rfl
       refine wpTo_tk (i := 15) (v := ?_) rfl (by kernel_rfl) (Or.inl ⟨by rfl, ?_⟩) (by assumption) ?_
       rotate_left
       · intro w hSw
         (try dsimp only at hSw)
         go_simp <;> with_reducible rfl
       try simp only [Act.put, zz1, zz2, zz3, zz4, zz5, zz6]
       refine wpTo_tk (i := 18) (v := ?_) rfl (by kernel_rfl) (Or.inl ⟨by rfl, ?_⟩) (by assumption) ?_
       rotate_left
       · intro w hSw
         (try dsimp only at hSw)
         go_simp <;> with_reducible rfl
       try simp only [Act.put, zz1, zz2, zz3, zz4, zz5, zz6]
       refine wpTo_ready (rs := [5]) (by kernel_rfl) (by simp) ?_
       refine AllTo.cons (o := _) rfl (fun K hK => ?_) ?_
       · (try simp only [zz1, zz2, zz3])
         go_simp
         refine (below_st (w := w) (a := a) (n := n) (c := c) (zs := zs) (R := R) (r := r) (h := h) 9 (by repeat' (first | refine St.alloc ?_ _ | refine St.drew ?_ | assumption)) (by omega) (by omega)).mono ?_
         rintro e wA ⟨y1, rfl, py1, qy1, sA, gA⟩
         have cA : wA.cell? ⟨R, 7, none⟩ = some (.slice h.at' r.types.length h.ct) := (sA.box 7 (by simp [reqCells])).1
         have rA := sA.hz
         have zA : wr.heap.size ≤ wA.heap.size := by (have h9 := gA.size; (try simp at h9); first | omega | exact h9)
         go_wp2_with fail
         refine hK.out _ _ (fun _ => ?_) ?_
         · first | assumption | go_keep
         clear hK K
         try simp only [Act.put, zz1, zz2, zz3, zz4, zz5, zz6]
         refine wpTo_tk (i := 6) (v := ?_) rfl (by kernel_rfl) (Or.inl ⟨by rfl, ?_⟩) (by assumption) ?_
         rotate_left
         · intro w hSw
           (try dsimp only at hSw)
           go_simp <;> with_reducible rfl
         try simp only [Act.put, zz1, zz2, zz3, zz4, zz5, zz6]
         rw [wrap_small (x := 4 + y1) (by omega) (by omega)]
         refine wpTo_ready (rs := [8]) (by kernel_rfl) (by simp) ?_
         refine AllTo.cons (o := _) rfl (fun K hK => ?_) ?_
         · (try simp only [zz1, zz2, zz3])
           go_simp
           refine (below_st (w := w) (a := a) (n := n) (c := c) (zs := zs) (R := R) (r := r) (h := h) 8 (by repeat' (first | refine St.alloc ?_ _ | refine St.drew ?_ | assumption)) (by omega) (by omega)).mono ?_
           rintro e wB ⟨y2, rfl, py2, qy2, sB, gB⟩
           have cB : wB.cell? ⟨R, 7, none⟩ = some (.slice h.at' r.types.length h.ct) := (sB.box 7 (by simp [reqCells])).1
           have rB := sB.hz
           have zB : wA.heap.size ≤ wB.heap.size := by (have h9 := gB.size; (try simp at h9); first | omega | exact h9)
           go_wp2_with fail
           refine hK.out _ _ (fun _ => ?_) ?_
           · first | assumption | go_keep
           clear hK K
           try simp only [Act.put, zz1, zz2, zz3, zz4, zz5, zz6]
           refine wpTo_tk (i := 9) (v := ?_) rfl (by kernel_rfl) (Or.inl ⟨by rfl, ?_⟩) (by assumption) ?_
           rotate_left
           · intro w hSw
             (try dsimp only at hSw)
             go_simp <;> with_reducible rfl
           try simp only [Act.put, zz1, zz2, zz3, zz4, zz5, zz6]
           rw [wrap_small (x := 3 + y2) (by omega) (by omega)]
           refine wpTo_ready (rs := [11]) (by kernel_rfl) (by simp) ?_
           refine AllTo.cons (o := _) rfl (fun K hK => ?_) ?_
           · (try simp only [zz1, zz2, zz3])
             go_simp
             refine (below_st (w := w) (a := a) (n := n) (c := c) (zs := zs) (R := R) (r := r) (h := h) 9 (by repeat' (first | refine St.alloc ?_ _ | refine St.drew ?_ | assumption)) (by omega) (by omega)).mono ?_
             rintro e wC ⟨y3, rfl, py3, qy3, sC, gC⟩
             have cC : wC.cell? ⟨R, 7, none⟩ = some (.slice h.at' r.types.length h.ct) := (sC.box 7 (by simp [reqCells])).1
             have rC := sC.hz
             have zC : wB.heap.size ≤ wC.heap.size := by (have h9 := gC.size; (try simp at h9); first | omega | exact h9)
             go_wp2_with fail
             refine hK.out _ _ (fun _ => ?_) ?_
             · first | assumption | go_keep
             clear hK K
             try simp only [Act.put, zz1, zz2, zz3, zz4, zz5, zz6]
             refine wpTo_tk (i := 12) (v := ?_) rfl (by kernel_rfl) (Or.inl ⟨by rfl, ?_⟩) (by assumption) ?_
             rotate_left
             · intro w hSw
               (try dsimp only at hSw)
               go_simp <;> with_reducible rfl
             try simp only [Act.put, zz1, zz2, zz3, zz4, zz5, zz6]
             rw [wrap_small (x := 3 + y3) (by omega) (by omega)]
             refine wpTo_ready (rs := [14]) (by kernel_rfl) (by simp) ?_
             refine AllTo.cons (o := _) rfl (fun K hK => ?_) ?_
             · (try simp only [zz1, zz2, zz3])
               go_simp
               refine (below_st (w := w) (a := a) (n := n) (c := c) (zs := zs) (R := R) (r := r) (h := h) 5 (by repeat' (first | refine St.alloc ?_ _ | refine St.drew ?_ | assumption)) (by omega) (by omega)).mono ?_
               rintro e wD ⟨y4, rfl, py4, qy4, sD, gD⟩
               have cD : wD.cell? ⟨R, 7, none⟩ = some (.slice h.at' r.types.length h.ct) := (sD.box 7 (by simp [reqCells])).1
               have rD := sD.hz
               have zD : wC.heap.size ≤ wD.heap.size := by (have h9 := gD.size; (try simp at h9); first | omega | exact h9)
               go_wp2_with fail
               refine hK.out _ _ (fun _ => ?_) ?_
               · first | assumption | go_keep
               clear hK K
               try simp only [Act.put, zz1, zz2, zz3, zz4, zz5, zz6]
               refine wpTo_ready (rs := [16]) (by kernel_rfl) (by simp) ?_
               refine AllTo.cons (o := _) rfl (fun K hK => ?_) ?_
               · (try simp only [zz1, zz2, zz3])
                 go_simp
                 refine (below_st (w := w) (a := a) (n := n) (c := c) (zs := zs) (R := R) (r := r) (h := h) 90 (by repeat' (first | refine St.alloc ?_ _ | refine St.drew ?_ | assumption)) (by omega) (by omega)).mono ?_
                 rintro e wE ⟨y5, rfl, py5, qy5, sE, gE⟩
                 have cE : wE.cell? ⟨R, 7, none⟩ = some (.slice h.at' r.types.length h.ct) := (sE.box 7 (by simp [reqCells])).1
                 have rE := sE.hz
                 have zE : wD.heap.size ≤ wE.heap.size := by (have h9 := gE.size; (try simp at h9); first | omega | exact h9)
                 go_wp2_with fail
                 refine hK.out _ _ (fun _ => ?_) ?_
                 · first | assumption | go_keep
                 clear hK K
                 try simp only [Act.put, zz1, zz2, zz3, zz4, zz5, zz6]
                 refine wpTo_tk (i := 17) (v := ?_) rfl (by kernel_rfl) (Or.inl ⟨by rfl, ?_⟩) (by assumption) ?_
                 rotate_left
                 · intro w hSw
                   (try dsimp only at hSw)
                   go_simp <;> with_reducible rfl
                 try simp only [Act.put, zz1, zz2, zz3, zz4, zz5, zz6]
                 rw [wrap_small (x := 20 + y5) (by omega) (by omega)]
                 refine wpTo_ready (rs := [19]) (by kernel_rfl) (by simp) ?_
                 refine AllTo.cons (o := _) rfl (fun K hK => ?_) ?_
                 · (try simp only [zz1, zz2, zz3])
                   go_simp
                   refine (below_st (w := w) (a := a) (n := n) (c := c) (zs := zs) (R := R) (r := r) (h := h) 20 (by repeat' (first | refine St.alloc ?_ _ | refine St.drew ?_ | assumption)) (by omega) (by omega)).mono ?_
                   rintro e wF ⟨y6, rfl, py6, qy6, sF, gF⟩
                   have cF : wF.cell? ⟨R, 7, none⟩ = some (.slice h.at' r.types.length h.ct) := (sF.box 7 (by simp [reqCells])).1
                   have rF := sF.hz
                   have zF : wE.heap.size ≤ wF.heap.size := by (have h9 := gF.size; (try simp at h9); first | omega | exact h9)
                   go_wp2_with fail
                   refine hK.out _ _ (fun _ => ?_) ?_
                   · first | assumption | go_keep
                   clear hK K
                   try simp only [Act.put, zz1, zz2, zz3, zz4, zz5, zz6]
                   refine wpTo_tk (i := 20) (v := ?_) rfl (by kernel_rfl) (Or.inl ⟨by rfl, ?_⟩) (by assumption) ?_
                   rotate_left
                   · intro w hSw
                     (try dsimp only at hSw)
                     go_simp <;> with_reducible rfl
                   try simp only [Act.put, zz1, zz2, zz3, zz4, zz5, zz6]
                   rw [wrap_small (x := 1 + y6) (by omega) (by omega)]
                   refine wpTo_tk (i := 21) (v := ?_) rfl (by kernel_rfl) (Or.inl ⟨by rfl, ?_⟩) (by assumption) ?_
                   rotate_left
                   · intro w hSw
                     (try dsimp only at hSw)
                     go_simp <;> with_reducible rfl
                   try simp only [Act.put, zz1, zz2, zz3, zz4, zz5, zz6]
                   refine wpTo_ready (rs := [22]) (by kernel_rfl) (by simp) ?_
                   refine AllTo.cons (o := _) rfl (fun K hK => ?_) ?_
                   · (try simp only [zz1, zz2, zz3])
                     go_simp
                     refine hK.out _ _ (fun _ => ?_) ?_
                     · first | assumption | go_keep
                     clear hK K
                     try simp only [Act.put, zz1, zz2, zz3, zz4, zz5, zz6]
                     refine wpTo_ready (rs := [23]) (by kernel_rfl) (by simp) ?_
                     refine AllTo.cons (o := _) rfl (fun K hK => ?_) ?_
                     · skip
                       refine step_append_lies _ (by rfl) _ _ 38 (by rfl) (R + 1) 54 i0 (.agg #[.int .i64 0, .int .i64 0, .int .i64 0, .int .i64 0, .int .i64 0, .int .i64 0, .int .i64 0]) 7 56 Tryz.underlying38 hi0 hz0 hz1 hz2 rfl (by omega) (.slice h.at' r.types.length h.ct) r.types.length (r.types.flatMap TypeV.cells) (by rfl) (sF.alloc _).lst.ot ⟨wF.heap.size, 0, none⟩ 1 1 (TypeV.cells ⟨10 + (i : Int), 4 + y1, 3 + y2, 3 + y3, y4, 20 + y5, 1 + y6⟩) (by rfl) rfl (World.news_of_block (heap_alloc_new _ _)) (by simp [TypeV.cells, Value.oneCell']) (by omega) (by unfold maxLen; omega) (by omega) (by simp; omega) (wF.heap.size + 1) (by simp) ?_
                       intro g cap wG hown hgrow hat hltG
                       obtain ⟨cD, tD⟩ := (sF.alloc _).aftType hgrow
                       have HOW := hide hown
                       have HGR := hide hgrow
                       have HAT := hide hat
                       clear hown hgrow hat
                       refine hK.out _ _ (fun hn => absurd (by decide) hn) ?_
                       clear hK K
                       try simp only [Act.put, zz1, zz2, zz3, zz4, zz5, zz6]
                       refine wpTo_ready (rs := [24]) (by kernel_rfl) (by simp) ?_
                       refine AllTo.cons (o := _) rfl (fun K hK => ?_) ?_
                       · (try simp only [zz1, zz2, zz3])
                         go_simp
                         refine hK.out _ _ (fun hn => absurd (by decide) hn) ?_
                         clear hK K
                         try simp only [Act.put, zz1, zz2, zz3, zz4, zz5, zz6]
                         refine wpTo_ready (rs := [25]) (by kernel_rfl) (by simp) ?_
                         refine AllTo.cons (o := _) rfl (fun K hK => ?_) ?_
                         · (try simp only [zz1, zz2, zz3])
                           go_simp
                           refine hK.out _ _ (fun hn => absurd (by decide) hn) ?_
                           clear hK K
                           try simp only [Act.put, zz1, zz2, zz3, zz4, zz5, zz6]
                           refine wpTo_done (by kernel_rfl) ?_ _
                           refine NoPanic.normal ?_
                           go_wp2_with fail
                           go_roundw
                           case rel => exact rel17 HF.out HL.out HO.out HI.out hp hlt3 ((sF.alloc _).appType [⟨10 + (i : Int), 4 + y1, 3 + y2, 3 + y3, y4, 20 + y5, 1 + y6⟩] HOW.out HGR.out HAT.out (Nat.le_of_eq (by simp))) (typ1 (by omega) (by omega) py1 qy1 py2 qy2 py3 qy3 py4 qy4 py5 qy5 py6 qy6)
                           case measure => simp [intOf]; omega
                         exact AllTo.nil
                       exact AllTo.nil
                     exact AllTo.nil
                   exact AllTo.nil
                 exact AllTo.nil
               exact AllTo.nil
             exact AllTo.nil
           exact AllTo.nil
         exact AllTo.nil
       exact AllTo.nil
     · have HS := hide s
       clear s
       go_wp2_with fail
       refine (below_st 6 (by exact unhide HS) (by omega) (by omega)).mono ?_
       rintro e w8 ⟨x8, rfl, p8, q8, s8, g8⟩
       have HS8 := hide s8
       clear HS s8 g8
       go_wp2_with fail
       go_loopw [9, 10] (fun vu vi wr => ∃ (i : Nat) (r : ReqV) (h : ReqH), (i : Int) ≤ x8 ∧ vi = .int .i64 i ∧ vu = .int .i64 (cntSum r.items) ∧ St w k a n c zs R r h wr ∧ Fst x1 x2 x3 x4 x5 x6 r ∧ r.types.length ≤ 5 ∧ 1 ≤ r.types.length ∧ r.types.all TypeV.ok = true ∧ r.items.length ≤ i ∧ r.items.all ItemV.ok = true ∧ cntSum r.items ≤ 12 ∧ r.pairs.length ≤ 16) (fun _ vi _ => 6 - (intOf vi).toNat)
       case atStart => exact ⟨0, r, h, by omega, rfl, by rw [unhide HI]; rfl, unhide HS8, unhide HF, by have := unhide HL; omega, by have := unhide HL; omega, unhide HO, by rw [unhide HI]; exact Nat.zero_le _, by rw [unhide HI]; rfl, by rw [unhide HI]; decide, hp⟩
       case round =>
        clear HS8 HF HL HO HI hp hle
        obtain ⟨j, r, h, hjx, rfl, rfl, s, f, ht1, ht2, hto, hil, hio, hcs, hp⟩ := hrel
        by_cases hlt4 : (j : Int) < x8
        · have hcl := f.cl
          have b5 : wr.cell? ⟨R, 5, none⟩ = some (.int .i64 (1 + x6)) := by rw [← hcl]; exact (s.box 5 (by simp [reqCells])).1
          have hz := s.hz
          have hRk := s.hR
          have HF := hide f
          have HTO := hide hto
          have HIO := hide hio
          have HCL := hide hcl
          clear f hto hio hcl
          go_upto_region 23 with fail
          go_cut [11] (fun v wc => ∃ (g : Nat) (q : ItemV), v = .pointer (some ⟨g, 0, none⟩) ∧ Itm w k a n c zs R r h g q wc ∧ q.ok = true ∧ q.cnt ≤ 4)
          case first =>
           have hcl := unhide HCL
           clear HF HTO HIO HCL HB HC m2 m3 m4 m5
           refine wp_region_noPanic ?_
           refine wp_region_to (S := fun w' => w'.cell? ⟨R, 5, none⟩ = some (.int .i64 (1 + x6))) (T := [23]) (by kernel_rfl) b5 (fun hHeld => ?_)
           refine wpTo_tk (i := 0) (v := ?_) rfl (by kernel_rfl) (Or.inl ⟨by rfl, ?_⟩) (by assumption) ?_
           rotate_left
           · intro w hSw
             (try dsimp only at hSw)
             go_simp <;> with_reducible rfl
           refine wpTo_tk (i := 1) (v := ?_) rfl (by kernel_rfl) (Or.inl ⟨by rfl, ?_⟩) (by assumption) ?_
           rotate_left
           · intro w hSw
             (try dsimp only at hSw)
             go_simp <;> with_reducible rfl
           try simp only [Act.put, zz1, zz2, zz3, zz4, zz5, zz6]
           rw [wrap_small (x := 3 * (j : Int)) (by omega) (by omega)]
           refine wpTo_tk (i := 2) (v := ?_) rfl (by kernel_rfl) (Or.inl ⟨by rfl, ?_⟩) (by assumption) ?_
           rotate_left
           · intro w hSw
             (try dsimp only at hSw)
             go_simp <;> with_reducible rfl
           refine wpTo_tk (i := 5) (v := ?_) rfl (by kernel_rfl) (Or.inl ⟨by rfl, ?_⟩) (by assumption) ?_
           rotate_left
           · intro w hSw
             (try dsimp only at hSw)
             go_simp <;> with_reducible rfl
           try simp only [Act.put, zz1, zz2, zz3, zz4, zz5, zz6]
           refine wpTo_tk (i := 8) (v := ?_) rfl (by kernel_rfl) (Or.inl ⟨by rfl, ?_⟩) (by assumption) ?_
           rotate_left
           · intro w hSw
             (try dsimp only at hSw)
             go_simp <;> with_reducible rfl
           refine wpTo_tk (i := 11) (v := ?_) rfl (by kernel_rfl) (Or.inl ⟨by rfl, ?_⟩) (by assumption) ?_
           rotate_left
           · intro w hSw
             (try dsimp only at hSw)
             go_simp <;> with_reducible rfl
           refine wpTo_tk (i := 14) (v := ?_) rfl (by kernel_rfl) (Or.inl ⟨by rfl, ?_⟩) (by assumption) ?_
           rotate_left
           · intro w hSw
             (try dsimp only at hSw)
             go_simp <;> with_reducible rfl
           try simp only [Act.put, zz1, zz2, zz3, zz4, zz5, zz6]
           refine wpTo_tk (i := 15) (v := ?_) rfl (by kernel_rfl) (Or.inl ⟨by rfl, ?_⟩) (by assumption) ?_
           rotate_left
           · intro w hSw
             (try dsimp only at hSw)
             go_simp <;> with_reducible rfl
           refine wpTo_tk (i := 16) (v := ?_) rfl (by kernel_rfl) (Or.inl ⟨by rfl, ?_⟩) (by assumption) ?_
           rotate_left
           · intro w hSw
             (try dsimp only at hSw)
             go_simp <;> with_reducible rfl
           refine wpTo_tk (i := 18) (v := ?_) rfl (by kernel_rfl) (Or.inl ⟨by rfl, ?_⟩) (by assumption) ?_
           rotate_left
           · intro w hSw
             (try dsimp only at hSw)
             go_simp <;> with_reducible rfl
           try simp only [Act.put, zz1, zz2, zz3, zz4, zz5, zz6]
           refine wpTo_inv (fun a0 listed ai wi => ∃ (b3 b4 b6 b7 b9 b10 b12 b13 b17 b19 b20 b21 b22 b23 : Bool) (y1 : Int) (y2 : Int) (y3 : Int) (y4 : Int) (y5 : Int) (y6 : Int) (g22 : Nat), listed = #[true, true, true, b3, b4, true, b6, b7, true, b9, b10, true, b12, b13, true, true, true, b17, true, b19, b20, b21, b22, b23] ∧ ai = fillS b22 11 (.pointer (some ⟨g22, 0, none⟩)) (fillS b21 140 (.agg #[.int .i64 (3 * (j : Int)), .int .i64 (1 + y1), .int .i64 (1 + y2), .int .i64 (1 + y3), .int .i64 (1 + y4), .int .i64 y5, .int .i64 (1 + y6)]) (fillS b20 139 (.int .i64 (1 + y6)) (fillS b19 138 (.int .i64 y6) (fillS b17 136 (.int .i64 y5) (fillS b13 132 (.int .i64 (1 + y4)) (fillS b12 131 (.int .i64 y4) (fillS b10 129 (.int .i64 (1 + y3)) (fillS b9 128 (.int .i64 y3) (fillS b7 126 (.int .i64 (1 + y2)) (fillS b6 125 (.int .i64 y2) (fillS b4 123 (.int .i64 (1 + y1)) (fillS b3 122 (.int .i64 y1) (a0))))))))))))) ∧ Hid (Tk b3 → 0 ≤ y1 ∧ y1 < 10) ∧ Hid (Tk b6 → 0 ≤ y2 ∧ y2 < 10) ∧ Hid (Tk b9 → 0 ≤ y3 ∧ y3 < 10) ∧ Hid (Tk b12 → 0 ≤ y4 ∧ y4 < 60) ∧ Hid (Tk b17 → 0 ≤ y5 ∧ y5 < (1 + x6)) ∧ Hid (Tk b19 → 0 ≤ y6 ∧ y6 < 4) ∧ Hid (Fk b23 → St w k a n c zs R r h wi) ∧ Hid (Tk b22 → Fk b23 → Blk wi g22 [.int .i64 0, .int .i64 0, .int .i64 0, .int .i64 0, .int .i64 0, .int .i64 0, .int .i64 0] ∧ g22 < wi.heap.size ∧ R < g22 ∧ Far h g22) ∧ Hid (Tk b23 → Itm w k a n c zs R r h g22 (⟨3 * (j : Int), 1 + y1, 1 + y2, 1 + y3, 1 + y4, y5, 1 + y6⟩ : ItemV) wi) ∧ Hid (Tk b4 → Tk b3) ∧ Hid (Tk b6 → Tk b3) ∧ Hid (Tk b7 → Tk b3 ∧ Tk b6) ∧ Hid (Tk b9 → Tk b3 ∧ Tk b6) ∧ Hid (Tk b10 → Tk b3 ∧ Tk b6 ∧ Tk b9) ∧ Hid (Tk b12 → Tk b3 ∧ Tk b6 ∧ Tk b9) ∧ Hid (Tk b13 → Tk b3 ∧ Tk b6 ∧ Tk b9 ∧ Tk b12) ∧ Hid (Tk b17 → Tk b3 ∧ Tk b6 ∧ Tk b9 ∧ Tk b12) ∧ Hid (Tk b19 → Tk b3 ∧ Tk b6 ∧ Tk b9 ∧ Tk b12 ∧ Tk b17) ∧ Hid (Tk b20 → Tk b3 ∧ Tk b6 ∧ Tk b9 ∧ Tk b12 ∧ Tk b17 ∧ Tk b19) ∧ Hid (Tk b21 → Tk b3 ∧ Tk b4 ∧ Tk b6 ∧ Tk b7 ∧ Tk b9 ∧ Tk b10 ∧ Tk b12 ∧ Tk b13 ∧ Tk b17 ∧ Tk b19 ∧ Tk b20) ∧ Hid (Tk b23 → Tk b3 ∧ Tk b4 ∧ Tk b6 ∧ Tk b7 ∧ Tk b9 ∧ Tk b10 ∧ Tk b12 ∧ Tk b13 ∧ Tk b17 ∧ Tk b19 ∧ Tk b20 ∧ Tk b21 ∧ Tk b22)) ⟨false, false, false, false, false, false, false, false, false, false, false, false, false, false, 0, 0, 0, 0, 0, 0, 0, rfl, by simp only [fillS_false], (fun h => by cases h), (fun h => by cases h), (fun h => by cases h), (fun h => by cases h), (fun h => by cases h), (fun h => by cases h), (fun _ => St.drew s), (fun h _ => by cases h), (fun h => by cases h), (fun h => by cases h), (fun h => by cases h), (fun h => by cases h), (fun h => by cases h), (fun h => by cases h), (fun h => by cases h), (fun h => by cases h), (fun h => by cases h), (fun h => by cases h), (fun h => by cases h), (fun h => by cases h), (fun h => by cases h)⟩ ?hS ?hT ?step ?fin _ (by decide)
           case hS =>
            rintro listed ai wi ⟨b3, b4, b6, b7, b9, b10, b12, b13, b17, b19, b20, b21, b22, b23, y1, y2, y3, y4, y5, y6, g22, rfl, ha, FY3, FY6, FY9, FY12, FY17, FY19, FS, FK, FP, FC4, FC6, FC7, FC9, FC10, FC12, FC13, FC17, FC19, FC20, FC21, FC23⟩ hTf
            have q23 : Fk b23 := (by simpa using hTf 23 (by simp) : b23 = false)
            show wi.cell? _ = _
            rw [← hcl]
            exact (FS.out q23).box 5 (by simp [reqCells]) |>.1
           case hT =>
            rintro listed ai wi ⟨b3, b4, b6, b7, b9, b10, b12, b13, b17, b19, b20, b21, b22, b23, y1, y2, y3, y4, y5, y6, g22, rfl, ha, FY3, FY6, FY9, FY12, FY17, FY19, FS, FK, FP, FC4, FC6, FC7, FC9, FC10, FC12, FC13, FC17, FC19, FC20, FC21, FC23⟩ f hf hlf
            obtain rfl : f = 23 := by simpa using hf
            obtain rfl : b23 = true := by simpa using hlf
            obtain ⟨rfl, rfl, rfl, rfl, rfl, rfl, rfl, rfl, rfl, rfl, rfl, rfl, rfl⟩ := FC23.out rfl
            decide
           case step =>
            rintro listed ai wi i o ⟨b3, b4, b6, b7, b9, b10, b12, b13, b17, b19, b20, b21, b22, b23, y1, y2, y3, y4, y5, y6, g22, rfl, ha, FY3, FY6, FY9, FY12, FY17, FY19, FS, FK, FP, FC4, FC6, FC7, FC9, FC10, FC12, FC13, FC17, FC19, FC20, FC21, FC23⟩ ho hl hall
            have hi : i < 24 := (Array.getElem?_eq_some_iff.1 ho).1
            obtain rfl | rfl | rfl | rfl | rfl | rfl | rfl | rfl | rfl | rfl | rfl | rfl | rfl | rfl | rfl | rfl | rfl | rfl | rfl | rfl | rfl | rfl | rfl | rfl : i = 0 ∨ i = 1 ∨ i = 2 ∨ i = 3 ∨ i = 4 ∨ i = 5 ∨ i = 6 ∨ i = 7 ∨ i = 8 ∨ i = 9 ∨ i = 10 ∨ i = 11 ∨ i = 12 ∨ i = 13 ∨ i = 14 ∨ i = 15 ∨ i = 16 ∨ i = 17 ∨ i = 18 ∨ i = 19 ∨ i = 20 ∨ i = 21 ∨ i = 22 ∨ i = 23 := by omega
            · exact absurd hl (by simp)
            · exact absurd hl (by simp)
            · exact absurd hl (by simp)
            · obtain rfl := Option.some.inj ho
              obtain rfl : b3 = false := by simpa using hl
              obtain rfl : b4 = false := Tk_no (fun p => by have h8 := FC4.out p; simp [Tk] at h8)
              obtain rfl : b6 = false := Tk_no (fun p => by have h8 := FC6.out p; simp [Tk] at h8)
              obtain rfl : b7 = false := Tk_no (fun p => by have h8 := FC7.out p; simp [Tk] at h8)
              obtain rfl : b9 = false := Tk_no (fun p => by have h8 := FC9.out p; simp [Tk] at h8)
              obtain rfl : b10 = false := Tk_no (fun p => by have h8 := FC10.out p; simp [Tk] at h8)
              obtain rfl : b12 = false := Tk_no (fun p => by have h8 := FC12.out p; simp [Tk] at h8)
              obtain rfl : b13 = false := Tk_no (fun p => by have h8 := FC13.out p; simp [Tk] at h8)
              obtain rfl : b17 = false := Tk_no (fun p => by have h8 := FC17.out p; simp [Tk] at h8)
              obtain rfl : b19 = false := Tk_no (fun p => by have h8 := FC19.out p; simp [Tk] at h8)
              obtain rfl : b20 = false := Tk_no (fun p => by have h8 := FC20.out p; simp [Tk] at h8)
              obtain rfl : b21 = false := Tk_no (fun p => by have h8 := FC21.out p; simp [Tk] at h8)
              obtain rfl : b23 = false := Tk_no (fun p => by have h8 := FC23.out p; simp [Tk] at h8)
              clear ho hl hall hi
              simp only [fillS, pickS_true, pickS_false, Act.put, zz7, zz8, zz9, zz10, zz11, zz1, zz2, zz3, zz4, zz5, zz6] at ha
              subst ha
              refine wpOp_stepS (o := _) rfl (fun K hK => ?_)
              have si := FS.out rfl
              have h1 := si.hk; have h2 := si.hR
              go_simp
              refine (below_st (w := w) (a := a) (n := n) (c := c) (zs := zs) (R := R) (r := r) (h := h) 10 si (by omega) (by omega)).mono ?_
              rintro e wz ⟨yn, rfl, py, qy, sz, gz⟩
              go_wp2_with fail
              refine hK.out _ _ ?_
              exact ⟨true, false, false, false, false, false, false, false, false, false, false, false, b22, false, yn, y2, y3, y4, y5, y6, g22, rfl, by simp only [fillS, pickS_true, pickS_false, Act.put, zz7, zz8, zz9, zz10, zz11, zz1, zz2, zz3, zz4, zz5, zz6], (fun p3 => ⟨py, qy⟩), (fun p6 => (by cases p6)), (fun p9 => (by cases p9)), (fun p12 => (by cases p12)), (fun p17 => (by cases p17)), (fun p19 => (by cases p19)), (fun q23 => sz), (fun p22 q23 => ⟨Blk.grown (unhide FK p22 q23).1 gz (unhide FK p22 q23).2.1 (by intro e; injection e with e; have := (unhide FK p22 q23).2.2.1; omega), Nat.lt_of_lt_of_le (unhide FK p22 q23).2.1 gz.size, (unhide FK p22 q23).2.2⟩), (fun p23 => (by cases p23)), (fun p4 => (by cases p4)), (fun p6 => (by cases p6)), (fun p7 => (by cases p7)), (fun p9 => (by cases p9)), (fun p10 => (by cases p10)), (fun p12 => (by cases p12)), (fun p13 => (by cases p13)), (fun p17 => (by cases p17)), (fun p19 => (by cases p19)), (fun p20 => (by cases p20)), (fun p21 => (by cases p21)), (fun p23 => (by cases p23))⟩
            · obtain rfl := Option.some.inj ho
              obtain rfl : b4 = false := by simpa using hl
              obtain rfl : b3 = true := by simpa using hall ⟨3, .data⟩ (by simp) rfl
              obtain rfl : b21 = false := Tk_no (fun p => by have h8 := FC21.out p; simp [Tk] at h8)
              obtain rfl : b23 = false := Tk_no (fun p => by have h8 := FC23.out p; simp [Tk] at h8)
              clear ho hl hall hi
              simp only [fillS, pickS_true, pickS_false, Act.put, zz7, zz8, zz9, zz10, zz11, zz1, zz2, zz3, zz4, zz5, zz6] at ha
              subst ha
              refine wpOp_stepS (o := _) rfl (fun K hK => ?_)
              have hy := FY3.out rfl
              go_simp
              rw [wrap_small (x := 1 + y1) (by omega) (by omega)]
              refine hK.out _ _ ?_
              exact ⟨true, true, b6, b7, b9, b10, b12, b13, b17, b19, b20, false, b22, false, y1, y2, y3, y4, y5, y6, g22, rfl, by simp only [fillS, pickS_true, pickS_false, Act.put, zz7, zz8, zz9, zz10, zz11, zz1, zz2, zz3, zz4, zz5, zz6], (fun p3 => (unhide FY3 p3)), (fun p6 => (unhide FY6 p6)), (fun p9 => (unhide FY9 p9)), (fun p12 => (unhide FY12 p12)), (fun p17 => (unhide FY17 p17)), (fun p19 => (unhide FY19 p19)), (fun q23 => (unhide FS q23)), (fun p22 q23 => (unhide FK p22 q23)), (fun p23 => (by cases p23)), (fun p4 => rfl), (fun p6 => (unhide FC6 p6)), (fun p7 => (unhide FC7 p7)), (fun p9 => (unhide FC9 p9)), (fun p10 => (unhide FC10 p10)), (fun p12 => (unhide FC12 p12)), (fun p13 => (unhide FC13 p13)), (fun p17 => (unhide FC17 p17)), (fun p19 => (unhide FC19 p19)), (fun p20 => (unhide FC20 p20)), (fun p21 => (by cases p21)), (fun p23 => (by cases p23))⟩
            · exact absurd hl (by simp)
            · obtain rfl := Option.some.inj ho
              obtain rfl : b6 = false := by simpa using hl
              obtain rfl : b3 = true := by simpa using hall ⟨3, .chain⟩ (by simp) rfl
              obtain rfl : b7 = false := Tk_no (fun p => by have h8 := FC7.out p; simp [Tk] at h8)
              obtain rfl : b9 = false := Tk_no (fun p => by have h8 := FC9.out p; simp [Tk] at h8)
              obtain rfl : b10 = false := Tk_no (fun p => by have h8 := FC10.out p; simp [Tk] at h8)
              obtain rfl : b12 = false := Tk_no (fun p => by have h8 := FC12.out p; simp [Tk] at h8)
              obtain rfl : b13 = false := Tk_no (fun p => by have h8 := FC13.out p; simp [Tk] at h8)
              obtain rfl : b17 = false := Tk_no (fun p => by have h8 := FC17.out p; simp [Tk] at h8)
              obtain rfl : b19 = false := Tk_no (fun p => by have h8 := FC19.out p; simp [Tk] at h8)
              obtain rfl : b20 = false := Tk_no (fun p => by have h8 := FC20.out p; simp [Tk] at h8)
              obtain rfl : b21 = false := Tk_no (fun p => by have h8 := FC21.out p; simp [Tk] at h8)
              obtain rfl : b23 = false := Tk_no (fun p => by have h8 := FC23.out p; simp [Tk] at h8)
              clear ho hl hall hi
              simp only [fillS, pickS_true, pickS_false, Act.put, zz7, zz8, zz9, zz10, zz11, zz1, zz2, zz3, zz4, zz5, zz6] at ha
              subst ha
              refine wpOp_stepS (o := _) rfl (fun K hK => ?_)
              have si := FS.out rfl
              have h1 := si.hk; have h2 := si.hR
              go_simp
              refine (below_st (w := w) (a := a) (n := n) (c := c) (zs := zs) (R := R) (r := r) (h := h) 10 si (by omega) (by omega)).mono ?_
              rintro e wz ⟨yn, rfl, py, qy, sz, gz⟩
              go_wp2_with fail
              refine hK.out _ _ ?_
              exact ⟨true, b4, true, false, false, false, false, false, false, false, false, false, b22, false, y1, yn, y3, y4, y5, y6, g22, rfl, by simp only [fillS, pickS_true, pickS_false, Act.put, zz7, zz8, zz9, zz10, zz11, zz1, zz2, zz3, zz4, zz5, zz6], (fun p3 => (unhide FY3 p3)), (fun p6 => ⟨py, qy⟩), (fun p9 => (by cases p9)), (fun p12 => (by cases p12)), (fun p17 => (by cases p17)), (fun p19 => (by cases p19)), (fun q23 => sz), (fun p22 q23 => ⟨Blk.grown (unhide FK p22 q23).1 gz (unhide FK p22 q23).2.1 (by intro e; injection e with e; have := (unhide FK p22 q23).2.2.1; omega), Nat.lt_of_lt_of_le (unhide FK p22 q23).2.1 gz.size, (unhide FK p22 q23).2.2⟩), (fun p23 => (by cases p23)), (fun p4 => (unhide FC4 p4)), (fun p6 => rfl), (fun p7 => (by cases p7)), (fun p9 => (by cases p9)), (fun p10 => (by cases p10)), (fun p12 => (by cases p12)), (fun p13 => (by cases p13)), (fun p17 => (by cases p17)), (fun p19 => (by cases p19)), (fun p20 => (by cases p20)), (fun p21 => (by cases p21)), (fun p23 => (by cases p23))⟩
            · obtain rfl := Option.some.inj ho
              obtain rfl : b7 = false := by simpa using hl
              obtain rfl : b6 = true := by simpa using hall ⟨6, .data⟩ (by simp) rfl
              obtain rfl := FC6.out rfl
              obtain rfl : b21 = false := Tk_no (fun p => by have h8 := FC21.out p; simp [Tk] at h8)
              obtain rfl : b23 = false := Tk_no (fun p => by have h8 := FC23.out p; simp [Tk] at h8)
              clear ho hl hall hi
              simp only [fillS, pickS_true, pickS_false, Act.put, zz7, zz8, zz9, zz10, zz11, zz1, zz2, zz3, zz4, zz5, zz6] at ha
              subst ha
              refine wpOp_stepS (o := _) rfl (fun K hK => ?_)
              have hy := FY6.out rfl
              go_simp
              rw [wrap_small (x := 1 + y2) (by omega) (by omega)]
              refine hK.out _ _ ?_
              exact ⟨true, b4, true, true, b9, b10, b12, b13, b17, b19, b20, false, b22, false, y1, y2, y3, y4, y5, y6, g22, rfl, by simp only [fillS, pickS_true, pickS_false, Act.put, zz7, zz8, zz9, zz10, zz11, zz1, zz2, zz3, zz4, zz5, zz6], (fun p3 => (unhide FY3 p3)), (fun p6 => (unhide FY6 p6)), (fun p9 => (unhide FY9 p9)), (fun p12 => (unhide FY12 p12)), (fun p17 => (unhide FY17 p17)), (fun p19 => (unhide FY19 p19)), (fun q23 => (unhide FS q23)), (fun p22 q23 => (unhide FK p22 q23)), (fun p23 => (by cases p23)), (fun p4 => (unhide FC4 p4)), (fun p6 => (unhide FC6 p6)), (fun p7 => ⟨rfl, rfl⟩), (fun p9 => (unhide FC9 p9)), (fun p10 => (unhide FC10 p10)), (fun p12 => (unhide FC12 p12)), (fun p13 => (unhide FC13 p13)), (fun p17 => (unhide FC17 p17)), (fun p19 => (unhide FC19 p19)), (fun p20 => (unhide FC20 p20)), (fun p21 => (by cases p21)), (fun p23 => (by cases p23))⟩
            · exact absurd hl (by simp)
            · obtain rfl := Option.some.inj ho
              obtain rfl : b9 = false := by simpa using hl
              obtain rfl : b6 = true := by simpa using hall ⟨6, .chain⟩ (by simp) rfl
              obtain rfl := FC6.out rfl
              obtain rfl : b10 = false := Tk_no (fun p => by have h8 := FC10.out p; simp [Tk] at h8)
              obtain rfl : b12 = false := Tk_no (fun p => by have h8 := FC12.out p; simp [Tk] at h8)
              obtain rfl : b13 = false := Tk_no (fun p => by have h8 := FC13.out p; simp [Tk] at h8)
              obtain rfl : b17 = false := Tk_no (fun p => by have h8 := FC17.out p; simp [Tk] at h8)
              obtain rfl : b19 = false := Tk_no (fun p => by have h8 := FC19.out p; simp [Tk] at h8)
              obtain rfl : b20 = false := Tk_no (fun p => by have h8 := FC20.out p; simp [Tk] at h8)
              obtain rfl : b21 = false := Tk_no (fun p => by have h8 := FC21.out p; simp [Tk] at h8)
              obtain rfl : b23 = false := Tk_no (fun p => by have h8 := FC23.out p; simp [Tk] at h8)
              clear ho hl hall hi
              simp only [fillS, pickS_true, pickS_false, Act.put, zz7, zz8, zz9, zz10, zz11, zz1, zz2, zz3, zz4, zz5, zz6] at ha
              subst ha
              refine wpOp_stepS (o := _) rfl (fun K hK => ?_)
              have si := FS.out rfl
              have h1 := si.hk; have h2 := si.hR
              go_simp
              refine (below_st (w := w) (a := a) (n := n) (c := c) (zs := zs) (R := R) (r := r) (h := h) 10 si (by omega) (by omega)).mono ?_
              rintro e wz ⟨yn, rfl, py, qy, sz, gz⟩
              go_wp2_with fail
              refine hK.out _ _ ?_
              exact ⟨true, b4, true, b7, true, false, false, false, false, false, false, false, b22, false, y1, y2, yn, y4, y5, y6, g22, rfl, by simp only [fillS, pickS_true, pickS_false, Act.put, zz7, zz8, zz9, zz10, zz11, zz1, zz2, zz3, zz4, zz5, zz6], (fun p3 => (unhide FY3 p3)), (fun p6 => (unhide FY6 p6)), (fun p9 => ⟨py, qy⟩), (fun p12 => (by cases p12)), (fun p17 => (by cases p17)), (fun p19 => (by cases p19)), (fun q23 => sz), (fun p22 q23 => ⟨Blk.grown (unhide FK p22 q23).1 gz (unhide FK p22 q23).2.1 (by intro e; injection e with e; have := (unhide FK p22 q23).2.2.1; omega), Nat.lt_of_lt_of_le (unhide FK p22 q23).2.1 gz.size, (unhide FK p22 q23).2.2⟩), (fun p23 => (by cases p23)), (fun p4 => (unhide FC4 p4)), (fun p6 => (unhide FC6 p6)), (fun p7 => (unhide FC7 p7)), (fun p9 => ⟨rfl, rfl⟩), (fun p10 => (by cases p10)), (fun p12 => (by cases p12)), (fun p13 => (by cases p13)), (fun p17 => (by cases p17)), (fun p19 => (by cases p19)), (fun p20 => (by cases p20)), (fun p21 => (by cases p21)), (fun p23 => (by cases p23))⟩
            · obtain rfl := Option.some.inj ho
              obtain rfl : b10 = false := by simpa using hl
              obtain rfl : b9 = true := by simpa using hall ⟨9, .data⟩ (by simp) rfl
              obtain ⟨rfl, rfl⟩ := FC9.out rfl
              obtain rfl : b21 = false := Tk_no (fun p => by have h8 := FC21.out p; simp [Tk] at h8)
              obtain rfl : b23 = false := Tk_no (fun p => by have h8 := FC23.out p; simp [Tk] at h8)
              clear ho hl hall hi
              simp only [fillS, pickS_true, pickS_false, Act.put, zz7, zz8, zz9, zz10, zz11, zz1, zz2, zz3, zz4, zz5, zz6] at ha
              subst ha
              refine wpOp_stepS (o := _) rfl (fun K hK => ?_)
              have hy := FY9.out rfl
              go_simp
              rw [wrap_small (x := 1 + y3) (by omega) (by omega)]
              refine hK.out _ _ ?_
              exact ⟨true, b4, true, b7, true, true, b12, b13, b17, b19, b20, false, b22, false, y1, y2, y3, y4, y5, y6, g22, rfl, by simp only [fillS, pickS_true, pickS_false, Act.put, zz7, zz8, zz9, zz10, zz11, zz1, zz2, zz3, zz4, zz5, zz6], (fun p3 => (unhide FY3 p3)), (fun p6 => (unhide FY6 p6)), (fun p9 => (unhide FY9 p9)), (fun p12 => (unhide FY12 p12)), (fun p17 => (unhide FY17 p17)), (fun p19 => (unhide FY19 p19)), (fun q23 => (unhide FS q23)), (fun p22 q23 => (unhide FK p22 q23)), (fun p23 => (by cases p23)), (fun p4 => (unhide FC4 p4)), (fun p6 => (unhide FC6 p6)), (fun p7 => (unhide FC7 p7)), (fun p9 => (unhide FC9 p9)), (fun p10 => ⟨rfl, rfl, rfl⟩), (fun p12 => (unhide FC12 p12)), (fun p13 => (unhide FC13 p13)), (fun p17 => (unhide FC17 p17)), (fun p19 => (unhide FC19 p19)), (fun p20 => (unhide FC20 p20)), (fun p21 => (by cases p21)), (fun p23 => (by cases p23))⟩
            · exact absurd hl (by simp)
            · obtain rfl := Option.some.inj ho
              obtain rfl : b12 = false := by simpa using hl
              obtain rfl : b9 = true := by simpa using hall ⟨9, .chain⟩ (by simp) rfl
              obtain ⟨rfl, rfl⟩ := FC9.out rfl
              obtain rfl : b13 = false := Tk_no (fun p => by have h8 := FC13.out p; simp [Tk] at h8)
              obtain rfl : b17 = false := Tk_no (fun p => by have h8 := FC17.out p; simp [Tk] at h8)
              obtain rfl : b19 = false := Tk_no (fun p => by have h8 := FC19.out p; simp [Tk] at h8)
              obtain rfl : b20 = false := Tk_no (fun p => by have h8 := FC20.out p; simp [Tk] at h8)
              obtain rfl : b21 = false := Tk_no (fun p => by have h8 := FC21.out p; simp [Tk] at h8)
              obtain rfl : b23 = false := Tk_no (fun p => by have h8 := FC23.out p; simp [Tk] at h8)
              clear ho hl hall hi
              simp only [fillS, pickS_true, pickS_false, Act.put, zz7, zz8, zz9, zz10, zz11, zz1, zz2, zz3, zz4, zz5, zz6] at ha
              subst ha
              refine wpOp_stepS (o := _) rfl (fun K hK => ?_)
              have si := FS.out rfl
              have h1 := si.hk; have h2 := si.hR
              go_simp
              refine (below_st (w := w) (a := a) (n := n) (c := c) (zs := zs) (R := R) (r := r) (h := h) 60 si (by omega) (by omega)).mono ?_
              rintro e wz ⟨yn, rfl, py, qy, sz, gz⟩
              go_wp2_with fail
              refine hK.out _ _ ?_
              exact ⟨true, b4, true, b7, true, b10, true, false, false, false, false, false, b22, false, y1, y2, y3, yn, y5, y6, g22, rfl, by simp only [fillS, pickS_true, pickS_false, Act.put, zz7, zz8, zz9, zz10, zz11, zz1, zz2, zz3, zz4, zz5, zz6], (fun p3 => (unhide FY3 p3)), (fun p6 => (unhide FY6 p6)), (fun p9 => (unhide FY9 p9)), (fun p12 => ⟨py, qy⟩), (fun p17 => (by cases p17)), (fun p19 => (by cases p19)), (fun q23 => sz), (fun p22 q23 => ⟨Blk.grown (unhide FK p22 q23).1 gz (unhide FK p22 q23).2.1 (by intro e; injection e with e; have := (unhide FK p22 q23).2.2.1; omega), Nat.lt_of_lt_of_le (unhide FK p22 q23).2.1 gz.size, (unhide FK p22 q23).2.2⟩), (fun p23 => (by cases p23)), (fun p4 => (unhide FC4 p4)), (fun p6 => (unhide FC6 p6)), (fun p7 => (unhide FC7 p7)), (fun p9 => (unhide FC9 p9)), (fun p10 => (unhide FC10 p10)), (fun p12 => ⟨rfl, rfl, rfl⟩), (fun p13 => (by cases p13)), (fun p17 => (by cases p17)), (fun p19 => (by cases p19)), (fun p20 => (by cases p20)), (fun p21 => (by cases p21)), (fun p23 => (by cases p23))⟩
            · obtain rfl := Option.some.inj ho
              obtain rfl : b13 = false := by simpa using hl
              obtain rfl : b12 = true := by simpa using hall ⟨12, .data⟩ (by simp) rfl
              obtain ⟨rfl, rfl, rfl⟩ := FC12.out rfl
              obtain rfl : b21 = false := Tk_no (fun p => by have h8 := FC21.out p; simp [Tk] at h8)
              obtain rfl : b23 = false := Tk_no (fun p => by have h8 := FC23.out p; simp [Tk] at h8)
              clear ho hl hall hi
              simp only [fillS, pickS_true, pickS_false, Act.put, zz7, zz8, zz9, zz10, zz11, zz1, zz2, zz3, zz4, zz5, zz6] at ha
              subst ha
              refine wpOp_stepS (o := _) rfl (fun K hK => ?_)
              have hy := FY12.out rfl
              go_simp
              rw [wrap_small (x := 1 + y4) (by omega) (by omega)]
              refine hK.out _ _ ?_
              exact ⟨true, b4, true, b7, true, b10, true, true, b17, b19, b20, false, b22, false, y1, y2, y3, y4, y5, y6, g22, rfl, by simp only [fillS, pickS_true, pickS_false, Act.put, zz7, zz8, zz9, zz10, zz11, zz1, zz2, zz3, zz4, zz5, zz6], (fun p3 => (unhide FY3 p3)), (fun p6 => (unhide FY6 p6)), (fun p9 => (unhide FY9 p9)), (fun p12 => (unhide FY12 p12)), (fun p17 => (unhide FY17 p17)), (fun p19 => (unhide FY19 p19)), (fun q23 => (unhide FS q23)), (fun p22 q23 => (unhide FK p22 q23)), (fun p23 => (by cases p23)), (fun p4 => (unhide FC4 p4)), (fun p6 => (unhide FC6 p6)), (fun p7 => (unhide FC7 p7)), (fun p9 => (unhide FC9 p9)), (fun p10 => (unhide FC10 p10)), (fun p12 => (unhide FC12 p12)), (fun p13 => ⟨rfl, rfl, rfl, rfl⟩), (fun p17 => (unhide FC17 p17)), (fun p19 => (unhide FC19 p19)), (fun p20 => (unhide FC20 p20)), (fun p21 => (by cases p21)), (fun p23 => (by cases p23))⟩
            · exact absurd hl (by simp)
            · exact absurd hl (by simp)
            · exact absurd hl (by simp)
            · obtain rfl := Option.some.inj ho
              obtain rfl : b17 = false := by simpa using hl
              obtain rfl : b12 = true := by simpa using hall ⟨12, .chain⟩ (by simp) rfl
              obtain ⟨rfl, rfl, rfl⟩ := FC12.out rfl
              obtain rfl : b19 = false := Tk_no (fun p => by have h8 := FC19.out p; simp [Tk] at h8)
              obtain rfl : b20 = false := Tk_no (fun p => by have h8 := FC20.out p; simp [Tk] at h8)
              obtain rfl : b21 = false := Tk_no (fun p => by have h8 := FC21.out p; simp [Tk] at h8)
              obtain rfl : b23 = false := Tk_no (fun p => by have h8 := FC23.out p; simp [Tk] at h8)
              clear ho hl hall hi
              simp only [fillS, pickS_true, pickS_false, Act.put, zz7, zz8, zz9, zz10, zz11, zz1, zz2, zz3, zz4, zz5, zz6] at ha
              subst ha
              refine wpOp_stepS (o := _) rfl (fun K hK => ?_)
              have si := FS.out rfl
              have h1 := si.hk; have h2 := si.hR
              go_simp
              refine (below_st (w := w) (a := a) (n := n) (c := c) (zs := zs) (R := R) (r := r) (h := h) (1 + x6) si (by omega) (by omega)).mono ?_
              rintro e wz ⟨yn, rfl, py, qy, sz, gz⟩
              go_wp2_with fail
              refine hK.out _ _ ?_
              exact ⟨true, b4, true, b7, true, b10, true, b13, true, false, false, false, b22, false, y1, y2, y3, y4, yn, y6, g22, rfl, by simp only [fillS, pickS_true, pickS_false, Act.put, zz7, zz8, zz9, zz10, zz11, zz1, zz2, zz3, zz4, zz5, zz6], (fun p3 => (unhide FY3 p3)), (fun p6 => (unhide FY6 p6)), (fun p9 => (unhide FY9 p9)), (fun p12 => (unhide FY12 p12)), (fun p17 => ⟨py, qy⟩), (fun p19 => (by cases p19)), (fun q23 => sz), (fun p22 q23 => ⟨Blk.grown (unhide FK p22 q23).1 gz (unhide FK p22 q23).2.1 (by intro e; injection e with e; have := (unhide FK p22 q23).2.2.1; omega), Nat.lt_of_lt_of_le (unhide FK p22 q23).2.1 gz.size, (unhide FK p22 q23).2.2⟩), (fun p23 => (by cases p23)), (fun p4 => (unhide FC4 p4)), (fun p6 => (unhide FC6 p6)), (fun p7 => (unhide FC7 p7)), (fun p9 => (unhide FC9 p9)), (fun p10 => (unhide FC10 p10)), (fun p12 => (unhide FC12 p12)), (fun p13 => (unhide FC13 p13)), (fun p17 => ⟨rfl, rfl, rfl, rfl⟩), (fun p19 => (by cases p19)), (fun p20 => (by cases p20)), (fun p21 => (by cases p21)), (fun p23 => (by cases p23))⟩
            · exact absurd hl (by simp)
            · obtain rfl := Option.some.inj ho
              obtain rfl : b19 = false := by simpa using hl
              obtain rfl : b17 = true := by simpa using hall ⟨17, .chain⟩ (by simp) rfl
              obtain ⟨rfl, rfl, rfl, rfl⟩ := FC17.out rfl
              obtain rfl : b20 = false := Tk_no (fun p => by have h8 := FC20.out p; simp [Tk] at h8)
              obtain rfl : b21 = false := Tk_no (fun p => by have h8 := FC21.out p; simp [Tk] at h8)
              obtain rfl : b23 = false := Tk_no (fun p => by have h8 := FC23.out p; simp [Tk] at h8)
              clear ho hl hall hi
              simp only [fillS, pickS_true, pickS_false, Act.put, zz7, zz8, zz9, zz10, zz11, zz1, zz2, zz3, zz4, zz5, zz6] at ha
              subst ha
              refine wpOp_stepS (o := _) rfl (fun K hK => ?_)
              have si := FS.out rfl
              have h1 := si.hk; have h2 := si.hR
              go_simp
              refine (below_st (w := w) (a := a) (n := n) (c := c) (zs := zs) (R := R) (r := r) (h := h) 4 si (by omega) (by omega)).mono ?_
              rintro e wz ⟨yn, rfl, py, qy, sz, gz⟩
              go_wp2_with fail
              refine hK.out _ _ ?_
              exact ⟨true, b4, true, b7, true, b10, true, b13, true, true, false, false, b22, false, y1, y2, y3, y4, y5, yn, g22, rfl, by simp only [fillS, pickS_true, pickS_false, Act.put, zz7, zz8, zz9, zz10, zz11, zz1, zz2, zz3, zz4, zz5, zz6], (fun p3 => (unhide FY3 p3)), (fun p6 => (unhide FY6 p6)), (fun p9 => (unhide FY9 p9)), (fun p12 => (unhide FY12 p12)), (fun p17 => (unhide FY17 p17)), (fun p19 => ⟨py, qy⟩), (fun q23 => sz), (fun p22 q23 => ⟨Blk.grown (unhide FK p22 q23).1 gz (unhide FK p22 q23).2.1 (by intro e; injection e with e; have := (unhide FK p22 q23).2.2.1; omega), Nat.lt_of_lt_of_le (unhide FK p22 q23).2.1 gz.size, (unhide FK p22 q23).2.2⟩), (fun p23 => (by cases p23)), (fun p4 => (unhide FC4 p4)), (fun p6 => (unhide FC6 p6)), (fun p7 => (unhide FC7 p7)), (fun p9 => (unhide FC9 p9)), (fun p10 => (unhide FC10 p10)), (fun p12 => (unhide FC12 p12)), (fun p13 => (unhide FC13 p13)), (fun p17 => (unhide FC17 p17)), (fun p19 => ⟨rfl, rfl, rfl, rfl, rfl⟩), (fun p20 => (by cases p20)), (fun p21 => (by cases p21)), (fun p23 => (by cases p23))⟩
            · obtain rfl := Option.some.inj ho
              obtain rfl : b20 = false := by simpa using hl
              obtain rfl : b19 = true := by simpa using hall ⟨19, .data⟩ (by simp) rfl
              obtain ⟨rfl, rfl, rfl, rfl, rfl⟩ := FC19.out rfl
              obtain rfl : b21 = false := Tk_no (fun p => by have h8 := FC21.out p; simp [Tk] at h8)
              obtain rfl : b23 = false := Tk_no (fun p => by have h8 := FC23.out p; simp [Tk] at h8)
              clear ho hl hall hi
              simp only [fillS, pickS_true, pickS_false, Act.put, zz7, zz8, zz9, zz10, zz11, zz1, zz2, zz3, zz4, zz5, zz6] at ha
              subst ha
              refine wpOp_stepS (o := _) rfl (fun K hK => ?_)
              have hy := FY19.out rfl
              go_simp
              rw [wrap_small (x := 1 + y6) (by omega) (by omega)]
              refine hK.out _ _ ?_
              exact ⟨true, b4, true, b7, true, b10, true, b13, true, true, true, false, b22, false, y1, y2, y3, y4, y5, y6, g22, rfl, by simp only [fillS, pickS_true, pickS_false, Act.put, zz7, zz8, zz9, zz10, zz11, zz1, zz2, zz3, zz4, zz5, zz6], (fun p3 => (unhide FY3 p3)), (fun p6 => (unhide FY6 p6)), (fun p9 => (unhide FY9 p9)), (fun p12 => (unhide FY12 p12)), (fun p17 => (unhide FY17 p17)), (fun p19 => (unhide FY19 p19)), (fun q23 => (unhide FS q23)), (fun p22 q23 => (unhide FK p22 q23)), (fun p23 => (by cases p23)), (fun p4 => (unhide FC4 p4)), (fun p6 => (unhide FC6 p6)), (fun p7 => (unhide FC7 p7)), (fun p9 => (unhide FC9 p9)), (fun p10 => (unhide FC10 p10)), (fun p12 => (unhide FC12 p12)), (fun p13 => (unhide FC13 p13)), (fun p17 => (unhide FC17 p17)), (fun p19 => (unhide FC19 p19)), (fun p20 => ⟨rfl, rfl, rfl, rfl, rfl, rfl⟩), (fun p21 => (by cases p21)), (fun p23 => (by cases p23))⟩
            · obtain rfl := Option.some.inj ho
              obtain rfl : b21 = false := by simpa using hl
              obtain rfl : b4 = true := by simpa using hall ⟨4, .data⟩ (by simp) rfl
              obtain rfl := FC4.out rfl
              obtain rfl : b7 = true := by simpa using hall ⟨7, .data⟩ (by simp) rfl
              obtain ⟨_, rfl⟩ := FC7.out rfl
              obtain rfl : b10 = true := by simpa using hall ⟨10, .data⟩ (by simp) rfl
              obtain ⟨_, _, rfl⟩ := FC10.out rfl
              obtain rfl : b13 = true := by simpa using hall ⟨13, .data⟩ (by simp) rfl
              obtain ⟨_, _, _, rfl⟩ := FC13.out rfl
              obtain rfl : b17 = true := by simpa using hall ⟨17, .data⟩ (by simp) rfl
              obtain rfl : b20 = true := by simpa using hall ⟨20, .data⟩ (by simp) rfl
              obtain ⟨_, _, _, _, _, rfl⟩ := FC20.out rfl
              obtain rfl : b23 = false := Tk_no (fun p => by have h8 := FC23.out p; simp [Tk] at h8)
              clear ho hl hall hi
              simp only [fillS, pickS_true, pickS_false, Act.put, zz7, zz8, zz9, zz10, zz11, zz1, zz2, zz3, zz4, zz5, zz6] at ha
              subst ha
              refine wpOp_stepS (o := _) rfl (fun K hK => ?_)
              go_simp
              refine hK.out _ _ ?_
              exact ⟨true, true, true, true, true, true, true, true, true, true, true, true, b22, false, y1, y2, y3, y4, y5, y6, g22, rfl, by simp only [fillS, pickS_true, pickS_false, Act.put, zz7, zz8, zz9, zz10, zz11, zz1, zz2, zz3, zz4, zz5, zz6], (fun p3 => (unhide FY3 p3)), (fun p6 => (unhide FY6 p6)), (fun p9 => (unhide FY9 p9)), (fun p12 => (unhide FY12 p12)), (fun p17 => (unhide FY17 p17)), (fun p19 => (unhide FY19 p19)), (fun q23 => (unhide FS q23)), (fun p22 q23 => (unhide FK p22 q23)), (fun p23 => (by cases p23)), (fun p4 => (unhide FC4 p4)), (fun p6 => (unhide FC6 p6)), (fun p7 => (unhide FC7 p7)), (fun p9 => (unhide FC9 p9)), (fun p10 => (unhide FC10 p10)), (fun p12 => (unhide FC12 p12)), (fun p13 => (unhide FC13 p13)), (fun p17 => (unhide FC17 p17)), (fun p19 => (unhide FC19 p19)), (fun p20 => (unhide FC20 p20)), (fun p21 => ⟨rfl, rfl, rfl, rfl, rfl, rfl, rfl, rfl, rfl, rfl, rfl⟩), (fun p23 => (by cases p23))⟩
            · obtain rfl := Option.some.inj ho
              obtain rfl : b22 = false := by simpa using hl
              obtain rfl : b23 = false := Tk_no (fun p => by have h8 := FC23.out p; simp [Tk] at h8)
              clear ho hl hall hi
              simp only [fillS, pickS_true, pickS_false, Act.put, zz7, zz8, zz9, zz10, zz11, zz1, zz2, zz3, zz4, zz5, zz6] at ha
              subst ha
              refine wpOp_stepS (o := _) rfl (fun K hK => ?_)
              have si := FS.out rfl
              go_simp
              refine hK.out _ _ ?_
              exact ⟨b3, b4, b6, b7, b9, b10, b12, b13, b17, b19, b20, b21, true, false, y1, y2, y3, y4, y5, y6, wi.heap.size, rfl, by simp only [fillS, pickS_true, pickS_false, Act.put, zz7, zz8, zz9, zz10, zz11, zz1, zz2, zz3, zz4, zz5, zz6], (fun p3 => (unhide FY3 p3)), (fun p6 => (unhide FY6 p6)), (fun p9 => (unhide FY9 p9)), (fun p12 => (unhide FY12 p12)), (fun p17 => (unhide FY17 p17)), (fun p19 => (unhide FY19 p19)), (fun q23 => ((unhide FS q23).alloc _)), (fun p22 q23 => ⟨Blk.allocAt [.int .i64 0, .int .i64 0, .int .i64 0, .int .i64 0, .int .i64 0, .int .i64 0, .int .i64 0] (by rfl), lt_alloc_new wi _, si.hz, si.farNew (Nat.le_refl _)⟩), (fun p23 => (by cases p23)), (fun p4 => (unhide FC4 p4)), (fun p6 => (unhide FC6 p6)), (fun p7 => (unhide FC7 p7)), (fun p9 => (unhide FC9 p9)), (fun p10 => (unhide FC10 p10)), (fun p12 => (unhide FC12 p12)), (fun p13 => (unhide FC13 p13)), (fun p17 => (unhide FC17 p17)), (fun p19 => (unhide FC19 p19)), (fun p20 => (unhide FC20 p20)), (fun p21 => (unhide FC21 p21)), (fun p23 => (by cases p23))⟩
            · obtain rfl := Option.some.inj ho
              obtain rfl : b23 = false := by simpa using hl
              obtain rfl : b22 = true := by simpa using hall ⟨22, .data⟩ (by simp) rfl
              obtain rfl : b21 = true := by simpa using hall ⟨21, .data⟩ (by simp) rfl
              obtain ⟨rfl, rfl, rfl, rfl, rfl, rfl, rfl, rfl, rfl, rfl, rfl⟩ := FC21.out rfl
              clear ho hl hall hi
              simp only [fillS, pickS_true, pickS_false, Act.put, zz7, zz8, zz9, zz10, zz11, zz1, zz2, zz3, zz4, zz5, zz6] at ha
              subst ha
              refine wpOp_stepS (o := _) rfl (fun K hK => ?_)
              have si := FS.out rfl
              obtain ⟨kb, kl, kR, kF⟩ := FK.out rfl rfl
              have p0c := (kb 0 (by simp)).1; have q0c := (kb 0 (by simp)).2
              have p1c := (kb 1 (by simp)).1; have q1c := (kb 1 (by simp)).2
              have p2c := (kb 2 (by simp)).1; have q2c := (kb 2 (by simp)).2
              have p3c := (kb 3 (by simp)).1; have q3c := (kb 3 (by simp)).2
              have p4c := (kb 4 (by simp)).1; have q4c := (kb 4 (by simp)).2
              have p5c := (kb 5 (by simp)).1; have q5c := (kb 5 (by simp)).2
              have p6c := (kb 6 (by simp)).1; have q6c := (kb 6 (by simp)).2
              go_simp
              refine hK.out _ _ ?_
              exact ⟨true, true, true, true, true, true, true, true, true, true, true, true, true, true, y1, y2, y3, y4, y5, y6, g22, rfl, by simp only [fillS, pickS_true, pickS_false, Act.put, zz7, zz8, zz9, zz10, zz11, zz1, zz2, zz3, zz4, zz5, zz6], (fun p3 => (unhide FY3 p3)), (fun p6 => (unhide FY6 p6)), (fun p9 => (unhide FY9 p9)), (fun p12 => (unhide FY12 p12)), (fun p17 => (unhide FY17 p17)), (fun p19 => (unhide FY19 p19)), (fun q23 => (by cases q23)), (fun p22 q23 => (by cases q23)), (fun p23 => ⟨St.write kR kF (ItemV.cells (⟨3 * (j : Int), 1 + y1, 1 + y2, 1 + y3, 1 + y4, y5, 1 + y6⟩ : ItemV)) wi 0 si, Blk.write (ItemV.cells (⟨3 * (j : Int), 1 + y1, 1 + y2, 1 + y3, 1 + y4, y5, 1 + y6⟩ : ItemV)) wi 0 _ kb (Nat.le_refl 7), kR, by simpa using kl, kF⟩), (fun p4 => (unhide FC4 p4)), (fun p6 => (unhide FC6 p6)), (fun p7 => (unhide FC7 p7)), (fun p9 => (unhide FC9 p9)), (fun p10 => (unhide FC10 p10)), (fun p12 => (unhide FC12 p12)), (fun p13 => (unhide FC13 p13)), (fun p17 => (unhide FC17 p17)), (fun p19 => (unhide FC19 p19)), (fun p20 => (unhide FC20 p20)), (fun p21 => (unhide FC21 p21)), (fun p23 => ⟨rfl, rfl, rfl, rfl, rfl, rfl, rfl, rfl, rfl, rfl, rfl, rfl, rfl⟩)⟩
           case fin =>
            rintro listed ai wi ⟨b3, b4, b6, b7, b9, b10, b12, b13, b17, b19, b20, b21, b22, b23, y1, y2, y3, y4, y5, y6, g22, rfl, ha, FY3, FY6, FY9, FY12, FY17, FY19, FS, FK, FP, FC4, FC6, FC7, FC9, FC10, FC12, FC13, FC17, FC19, FC20, FC21, FC23⟩ hall
            obtain rfl : b3 = true := by
             have h9 := hall 3 _ rfl (by
              intro e he hbd
              simp at he
              subst he
              simp
              )
             simpa using h9
            obtain rfl : b4 = true := by
             have h9 := hall 4 _ rfl (by
              intro e he hbd
              simp at he
              subst he
              simp
              )
             simpa using h9
            obtain rfl : b6 = true := by
             have h9 := hall 6 _ rfl (by
              intro e he hbd
              simp at he
              rcases he with rfl | rfl <;> simp
              )
             simpa using h9
            obtain rfl : b7 = true := by
             have h9 := hall 7 _ rfl (by
              intro e he hbd
              simp at he
              subst he
              simp
              )
             simpa using h9
            obtain rfl : b9 = true := by
             have h9 := hall 9 _ rfl (by
              intro e he hbd
              simp at he
              rcases he with rfl | rfl <;> simp
              )
             simpa using h9
            obtain rfl : b10 = true := by
             have h9 := hall 10 _ rfl (by
              intro e he hbd
              simp at he
              subst he
              simp
              )
             simpa using h9
            obtain rfl : b12 = true := by
             have h9 := hall 12 _ rfl (by
              intro e he hbd
              simp at he
              rcases he with rfl | rfl <;> simp
              )
             simpa using h9
            obtain rfl : b13 = true := by
             have h9 := hall 13 _ rfl (by
              intro e he hbd
              simp at he
              subst he
              simp
              )
             simpa using h9
            obtain rfl : b17 = true := by
             have h9 := hall 17 _ rfl (by
              intro e he hbd
              simp at he
              rcases he with rfl | rfl | rfl <;> simp
              )
             simpa using h9
            obtain rfl : b19 = true := by
             have h9 := hall 19 _ rfl (by
              intro e he hbd
              simp at he
              rcases he with rfl | rfl <;> simp
              )
             simpa using h9
            obtain rfl : b20 = true := by
             have h9 := hall 20 _ rfl (by
              intro e he hbd
              simp at he
              subst he
              simp
              )
             simpa using h9
            obtain rfl : b21 = true := by
             have h9 := hall 21 _ rfl (by
              intro e he hbd
              simp at he
              rcases he with rfl | rfl | rfl | rfl | rfl | rfl | rfl <;> simp
              )
             simpa using h9
            obtain rfl : b22 = true := by
             have h9 := hall 22 _ rfl (by
              intro e he hbd
              simp at he
              )
             simpa using h9
            obtain rfl : b23 = true := by
             have h9 := hall 23 _ rfl (by
              intro e he hbd
              simp at he
              rcases he with rfl | rfl | rfl | rfl | rfl | rfl | rfl | rfl | rfl | rfl | rfl | rfl | rfl | rfl | rfl | rfl | rfl | rfl | rfl | rfl | rfl | rfl | rfl | rfl | rfl | rfl <;> simp
              )
             simpa using h9
            clear hall
            simp only [fillS, pickS_true, pickS_false, Act.put, zz7, zz8, zz9, zz10, zz11, zz1, zz2, zz3, zz4, zz5, zz6] at ha
            subst ha
            refine NoPanic.normal ?_
            have IP := hide (FP.out rfl)
            obtain ⟨py1, qy1⟩ := FY3.out rfl
            obtain ⟨py2, qy2⟩ := FY6.out rfl
            obtain ⟨py3, qy3⟩ := FY9.out rfl
            obtain ⟨py4, qy4⟩ := FY12.out rfl
            obtain ⟨py5, qy5⟩ := FY17.out rfl
            obtain ⟨py6, qy6⟩ := FY19.out rfl
            clear FS FK FP FC6 FC9 FC12 FC17 FC19 FC4 FC7 FC10 FC13 FC20 FC21 FC23
            go_wp2_with fail
            go_meet
            case rel => exact ⟨g22, (⟨3 * (j : Int), 1 + y1, 1 + y2, 1 + y3, 1 + y4, y5, 1 + y6⟩ : ItemV), rfl, unhide IP, (itm_ok (by omega) (by omega) py1 qy1 py2 qy2 py3 qy3 py4 qy4 py5 (by omega) py6 qy6), by show 1 + y6 ≤ 4; omega⟩
          case rest =>
           obtain ⟨g, q, rfl, I, hqo, hq4⟩ := hcut
           have HI := hide I
           clear I s b5
           go_wp2_with fail
           refine (once_st (w := w) (a := a) (n := n) (c := c) (zs := zs) (R := R) (r := r) (h := h) 3 (by exact HI.out.st) (by omega) (by omega)).mono ?_
           rintro e w9 ⟨b, rfl, s9, g9⟩
           have HI9 := hide (HI.out.call g9 s9)
           clear HI s9 g9
           go_upto_if 142 with fail
           go_cut [] (fun wc => ∃ q : ItemV, Itm w k a n c zs R r h g q wc ∧ q.ok = true ∧ q.cnt ≤ 4)
           case first =>
            cases b
            · go_wp2_with fail
              go_meet
              case rel => exact ⟨q, unhide HI9, hqo, hq4⟩
            · have HQO0 : ItemV.ok { q with wd := 5, ht := 5 } = true := ok_sides hqo (by omega) (by omega) (by omega) (by omega)
              obtain ⟨e0, e1, e2, e3, e4, e5, e6⟩ := itmFacts HI9.out.blk
              obtain ⟨f0, f1, f2, f3, f4, f5, f6⟩ := itmFree HI9.out.blk
              have HIa : Hid (Itm w k a n c zs R r h g { q with wd := 5, ht := 5 } ((w9.setCell ⟨g, 1, none⟩ (.int .i64 5)).setCell ⟨g, 2, none⟩ (.int .i64 5))) := (HI9.out.set (q' := { q with wd := 5 }) 1 _ (by omega) rfl).set 2 _ (by omega) rfl
              clear HI9
              go_wp2_with fail
              refine (below_st (w := w) (a := a) (n := n) (c := c) (zs := zs) (R := R) (r := r) (h := h) 8 (by exact HIa.out.st) (by omega) (by omega)).mono ?_
              rintro e w10 ⟨y, rfl, py, qy, s10, g10⟩
              have HI10 := hide (HIa.out.call g10 s10)
              clear HIa s10 g10 e0 e1 e2 e3 e4 e5 e6 f0 f1 f2 f3 f4 f5 f6
              obtain ⟨e0, e1, e2, e3, e4, e5, e6⟩ := itmFacts HI10.out.blk
              obtain ⟨f0, f1, f2, f3, f4, f5, f6⟩ := itmFree HI10.out.blk
              have HQO : ItemV.ok { q with wd := 5, ht := 5, dp := 4 + y } = true := ok_dp HQO0 (by omega) (by omega)
              have HIb : Hid (Itm w k a n c zs R r h g { q with wd := 5, ht := 5, dp := 4 + y } (w10.setCell ⟨g, 3, none⟩ (.int .i64 (4 + y)))) := HI10.out.set 3 _ (by omega) rfl
              go_wp2_with fail
              go_meet
              case rel => exact ⟨_, unhide HIb, HQO, hq4⟩
           case rest =>
            clear HI9 hqo hq4
            obtain ⟨q, I, hqo, hq4⟩ := hcut
            have HIc := hide I
            clear I
            have HQO : q.ok = true := hqo
            have b9 : wc.cell? ⟨R, 9, none⟩ = some (.slice h.ai r.items.length h.ci) := (HIc.out.st.box 9 (by simp [reqCells])).1
            have hzR := HIc.out.st.hz
            have hgz := HIc.out.gz
            obtain ⟨e0, e1, e2, e3, e4, e5, e6⟩ := itmFacts HIc.out.blk
            obtain ⟨c1, c2⟩ := item_cnt HQO
            obtain ⟨i0, hi0, hz0, hz1, hz2⟩ := info_parts Tryz.dinfoItem
            have hcb := (cntSum_bd _ HIO.out).1
            by_cases hcs2 : cntSum r.items + q.cnt ≤ 12
            · go_wp2_with (first
               | (at_builtin; refine wpList_append_lies _ rfl _ _ 39 rfl (R + 1) 89 i0 (.agg #[.int .i64 0, .int .i64 0, .int .i64 0, .int .i64 0, .int .i64 0, .int .i64 0, .int .i64 0]) 7 56 Tryz.underlying39 hi0 hz0 hz1 hz2 rfl (by omega) (.slice h.ai r.items.length h.ci) r.items.length (r.items.flatMap ItemV.cells) (by rfl) (HIc.out.st.alloc _).lst.oi ⟨wc.heap.size, 0, none⟩ 1 1 (ItemV.cells q) (by rfl) rfl (World.news_of_block (heap_alloc_new _ _)) (by simp [ItemV.cells, Value.oneCell']) (by omega) (by unfold maxLen; omega) (by omega) (by simp; omega) (wc.heap.size + 1) (by simp) ?_; intro g' cap' wG hown hgrow hat hltG; obtain ⟨q9, t9⟩ := (HIc.out.st.alloc _).aftItem hgrow; have e6' : wG.cell? ⟨g, 6, none⟩ = some (.int .i64 q.cnt) := (hgrow.cell_far ⟨g, 6, none⟩ (by simp; omega) (aft_far HIc.out.far)).trans ((HIc.out.blk.allocOld HIc.out.gz _) 6 (by simp [ItemV.cells])).1; have HOW := hide hown; have HGR := hide hgrow; have HAT := hide hat; clear hown hgrow hat)
               | go_in)
              go_roundw
              case rel => exact ⟨j + 1, _, _, by omega, by go_num, by simp [cntSum, List.sum_append], (HIc.out.st.alloc _).appItem [q] HOW.out HGR.out HAT.out (Nat.le_of_eq (by simp)), ⟨HF.out.way, HF.out.pal, HF.out.cl, HF.out.ms, HF.out.ps⟩, ht1, ht2, unhide HTO, by simp; omega, by simp only [List.all_append, unhide HIO, List.all_cons, HQO, List.all_nil, Bool.and_true, Bool.true_and], by rw [cntSum_snoc]; exact hcs2, hp⟩
              case measure => simp [intOf]; omega
            · go_wp2_with fail
              go_roundw
              case rel => exact ⟨j + 1, r, h, by omega, by go_num, rfl, HIc.out.st, unhide HF, ht1, ht2, unhide HTO, by omega, unhide HIO, hcs, hp⟩
              case measure => simp [intOf]; omega
        · have HE := hide (right_ok f (by omega) (by omega) (by omega) (by omega) m2 m3 m4 m5 ht1 ht2 hto (by omega) hio hcs hp)
          have HD := hide (s.done (reqCells r h))
          obtain ⟨a0, a1, a2, a3, a4, a5, a6, a7, a8, a9⟩ := reqFacts s.box
          have RR := s.res
          have q0 : wr.cell? ⟨w.heap.size, 0, none⟩ = some (.int .i64 0) := (RR 0 (by simp [zeroReq])).1
          have t0 := (RR 0 (by simp [zeroReq])).2
          have q1 : wr.cell? ⟨w.heap.size, 1, none⟩ = some (.int .i64 0) := (RR 1 (by simp [zeroReq])).1
          have t1 := (RR 1 (by simp [zeroReq])).2
          have q2 : wr.cell? ⟨w.heap.size, 2, none⟩ = some (.int .i64 0) := (RR 2 (by simp [zeroReq])).1
          have t2 := (RR 2 (by simp [zeroReq])).2
          have q3 : wr.cell? ⟨w.heap.size, 3, none⟩ = some (.int .i64 0) := (RR 3 (by simp [zeroReq])).1
          have t3 := (RR 3 (by simp [zeroReq])).2
          have q4 : wr.cell? ⟨w.heap.size, 4, none⟩ = some (.int .i64 0) := (RR 4 (by simp [zeroReq])).1
          have t4 := (RR 4 (by simp [zeroReq])).2
          have q5 : wr.cell? ⟨w.heap.size, 5, none⟩ = some (.int .i64 0) := (RR 5 (by simp [zeroReq])).1
          have t5 := (RR 5 (by simp [zeroReq])).2
          have q6 : wr.cell? ⟨w.heap.size, 6, none⟩ = some (.slice none 0 0) := (RR 6 (by simp [zeroReq])).1
          have t6 := (RR 6 (by simp [zeroReq])).2
          have q7 : wr.cell? ⟨w.heap.size, 7, none⟩ = some (.slice none 0 0) := (RR 7 (by simp [zeroReq])).1
          have t7 := (RR 7 (by simp [zeroReq])).2
          have q8 : wr.cell? ⟨w.heap.size, 8, none⟩ = some (.int .i64 0) := (RR 8 (by simp [zeroReq])).1
          have t8 := (RR 8 (by simp [zeroReq])).2
          have q9 : wr.cell? ⟨w.heap.size, 9, none⟩ = some (.slice none 0 0) := (RR 9 (by simp [zeroReq])).1
          have t9 := (RR 9 (by simp [zeroReq])).2
          clear s f hto hio RR
          go_wp2_with fail
          refine bodyPost_ret (v := reqVal r h) (by simp [results, Tryz.results139, go_sem, reqVal, q0, q1, q2, q3, q4, q5, q6, q7, q8, q9]) rfl ?_
          exact ⟨r, h, rfl, unhide HE, HD.out.1, HD.out.2.1, HD.out.2.2⟩
  go_wp2_with fail
  go_loopw [5] (fun vb wr => ∃ (b : Nat) (r : ReqV) (h : ReqH), b ≤ A + 1 ∧ vb = .int .i64 b ∧ St w k a n c zs R r h wr ∧ Fst x1 x2 x3 x4 x5 x6 r ∧ r.types = [] ∧ r.items = [] ∧ r.pairs.length ≤ A * A + 2 * b ∧ (b = A + 1 → r.pairs.length ≤ A * A + 2 * A + 1)) (fun vb _ => A + 1 - (intOf vb).toNat)
  case atStart => exact ⟨0, r, h, by omega, rfl, unhide HS, unhide HF, unhide HT, unhide HI, by omega, by omega⟩
  case round =>
   clear HS HF HT HI b5
   obtain ⟨b, r, h, hb, rfl, s, f, ht, hi, hl1, hl2⟩ := hrel
   by_cases hba : b ≤ A
   case neg =>
    have HS := hide s
    have HF := hide f
    have HT := hide ht
    have HI := hide hi
    have HL := hide (hl2 (by omega))
    clear s f ht hi hl2
    go_wp2_with fail
    go_roundw
    case rel => exact ⟨A + 1, r, h, by omega, by go_num, unhide HS, unhide HF, unhide HT, unhide HI, by have := unhide HL; rw [Nat.succ_mul, Nat.mul_succ]; omega⟩
    case measure => simp [intOf]; omega
   have hlen : r.pairs.length ≤ 64 := by have := Nat.mul_le_mul (show A ≤ 4 by omega) (show A ≤ 4 by omega); omega
   obtain ⟨i0, hi0, hz0, hz1, hz2⟩ := info_parts Tryz.dinfoPair
   have b6 : wr.cell? ⟨R, 6, none⟩ = some (.slice h.ap r.pairs.length h.cp) := (s.box 6 (by simp [reqCells])).1
   have hz := s.hz
   have HS := hide s
   have HF := hide f
   have HT := hide ht
   have HI := hide hi
   clear s f ht hi
   by_cases hab : A = b
   · have e1 : ((A : Int) == (b : Int)) = true := by simp [hab]
     have HAB := hide hab
     clear hab
     go_wp2_with (first
      | (at_builtin; refine wpList_append_lies _ rfl _ _ 37 rfl (R + 1) 92 i0 (.agg #[.int .i64 0, .int .i64 0]) 2 16 Tryz.underlying37 hi0 hz0 hz1 hz2 rfl (by omega) (.slice h.ap r.pairs.length h.cp) r.pairs.length (r.pairs.flatMap PairV.cells) (by rfl) (HS.out.alloc _).lst.op ⟨wr.heap.size, 0, none⟩ 1 1 (PairV.cells ⟨A, A⟩) (by rfl) rfl (World.news_of_block (heap_alloc_new _ _)) (by simp [PairV.cells, Value.oneCell']) (by omega) (by unfold maxLen; omega) (by omega) (by simp; omega) (wr.heap.size + 1) (by simp) ?_; intro g cap w7 hown hgrow hat hlt7; obtain ⟨q6, t6⟩ := (HS.out.alloc _).aftPair hgrow; have HO := hide hown; have HGR := hide hgrow; have HAT := hide hat; clear hown hgrow hat)
      | go_in)
     go_roundw
     case rel => exact ⟨b + 1, _, _, by omega, by go_num, (HS.out.alloc _).appPair [⟨A, A⟩] HO.out HGR.out HAT.out (by simp), HF.out.pairs [⟨A, A⟩] (by simp [pairB, inB]; omega), unhide HT, unhide HI, by simp; omega, by simp; have := unhide HAB; omega⟩
     case measure => simp [intOf]; omega
   · have e1 : ((A : Int) == (b : Int)) = false := by rw [beq_eq_false_iff_ne]; omega
     have HAB := hide hab
     clear hab
     go_wp2_with fail
     refine (l1Once_any k a n c zs 2 _ HS.out.cur (by omega) (by omega)).mono ?_
     rintro e w7 ⟨o, rfl, hc7, hg7⟩
     have HS7 := hide (HS.out.call hg7 hc7)
     have b6' : w7.cell? ⟨R, 6, none⟩ = some (.slice h.ap r.pairs.length h.cp) := (HS7.out.box 6 (by simp [reqCells])).1
     have hz7 := HS7.out.hz
     clear hc7 hg7 HS b6
     cases o
     · go_wp2_with fail
       go_roundw
       case rel => exact ⟨b + 1, r, h, by omega, by go_num, unhide HS7, unhide HF, unhide HT, unhide HI, by omega, by have := unhide HAB; omega⟩
       case measure => simp [intOf]; omega
     · go_wp2_with (first
        | (at_builtin; refine wpList_append_lies _ rfl _ _ 37 rfl (R + 1) 92 i0 (.agg #[.int .i64 0, .int .i64 0]) 2 16 Tryz.underlying37 hi0 hz0 hz1 hz2 rfl (by omega) (.slice h.ap r.pairs.length h.cp) r.pairs.length (r.pairs.flatMap PairV.cells) (by rfl) (HS7.out.alloc _).lst.op ⟨w7.heap.size, 0, none⟩ 2 2 ([⟨A, b⟩, ⟨b, A⟩].flatMap PairV.cells) (by rfl) rfl (World.news_of_block (heap_alloc_new _ _)) (by simp [PairV.cells, Value.oneCell']) (by omega) (by unfold maxLen; omega) (by omega) (by simp; omega) (w7.heap.size + 1) (by simp) ?_; intro g cap w8 hown hgrow hat hlt8; obtain ⟨q6, t6⟩ := (HS7.out.alloc _).aftPair hgrow; have HO := hide hown; have HGR := hide hgrow; have HAT := hide hat; clear hown hgrow hat)
        | go_in)
       go_roundw
       case rel => exact ⟨b + 1, _, _, by omega, by go_num, (HS7.out.alloc _).appPair [⟨A, b⟩, ⟨b, A⟩] HO.out HGR.out HAT.out (by simp), HF.out.pairs [⟨A, b⟩, ⟨b, A⟩] (by simp [pairB, inB]; omega), unhide HT, unhide HI, by simp; omega, by simp; have := unhide HAB; omega⟩
       case measure => simp [intOf]; omega
end Go.Proofs.YtcblpoeeembniabGreatDoor
