/- l2Right: the model draws an order that is within bounds. -/
import Derived.Test.YtlakbnpinennnaaGreatDoorDrawSt
import Derived.Test.YtlakbnpinennnaaGreatDoorPkC
import Derived.Deep.DeepMust
import Derived.Deep.DeepCutAuto
import Derived.Deep.RegionHeld3
import Derived.Deep.RegionLaw
import Derived.WalkSpells
namespace Go.Proofs.YtlakbnpinennnaaGreatDoor
open Go.RowKit
set_option linter.unusedVariables false
set_option linter.unusedSimpArgs false

/-- l1PickInt out of a literal. -/
theorem pickL (k : Nat) (a : Option Addr) (n c : Nat) (zs : List Int) (ls : List Int) (w : World) (hc : Cur w k a n c zs) (hm0 : 1 ≤ ls.length) (hm1 : ls.length ≤ 256) :
    Calls Tryz.prog 94 #[.pointer (some ⟨k, 0, none⟩), .slice (some ⟨w.heap.size, 0, none⟩) ls.length ls.length] (w.alloc (.cells (ls.map (Value.int .i64)).toArray 3)) fun e w' =>
      ∃ v : Int, e = .returned (.int .i64 v) ∧ v ∈ ls ∧ Cur w' k a n c zs ∧ w.grownBy w' (some k) := by
  have hkw : k < w.heap.size := by obtain ⟨_, _, _, _, h⟩ := hc.cells; exact lt_of_block h
  have hlit : Rd (w.alloc (.cells (ls.map (Value.int .i64)).toArray 3)) (some ⟨w.heap.size, 0, none⟩) ls.length ls :=
    Rd.of_owns (base := w.heap.size) (cap := ls.length) (by simpa using World.ownsRow_lit (base := w.heap.size) (e := 3) (size := 1) w (ls.map (Value.int .i64)).toArray ls.length (Nat.le_refl _) (by unfold maxLen; omega) (by simp))
  refine (l1PickInt_any k a n c zs w.heap.size ls.length ls.length ls _ (hc.mono ((Below.refl _ _).alloc (Nat.le_refl _) _)) hlit hm0 hm1 (by omega)).mono ?_
  rintro e w' ⟨j, hj, rfl, h1, h2⟩
  refine ⟨_, rfl, ?_, h1, gb_same (World.grownBy_alloc w _ (some k)) h2⟩
  rw [List.getD_eq_getElem?_getD, List.getElem?_eq_getElem hj]
  exact List.getElem_mem _
section
variable {w : World} {k : Nat} {a : Option Addr} {n c : Nat} {zs : List Int} {R : Nat} {r : ReqV} {h : ReqH} {W : World}
theorem below_st (m : Int) (s : St w k a n c zs R r h W) (hm0 : 1 ≤ m) (hm1 : m ≤ 256) :
    Calls Tryz.prog 92 #[.pointer (some ⟨k, 0, none⟩), .int .i64 m] W fun e w' => ∃ x : Int, e = .returned (.int .i64 x) ∧ 0 ≤ x ∧ x < m ∧ St w k a n c zs R r h w' ∧ W.grownBy w' (some k) := by
  refine (l1Below_any k a n c zs m W s.cur hm0 hm1).mono ?_
  rintro e w' ⟨x, rfl, h1, h2, h3, h4⟩
  exact ⟨x, rfl, h1, h2, s.call h4 h3, h4⟩
theorem once_st (m : Int) (s : St w k a n c zs R r h W) (hm0 : 1 ≤ m) (hm1 : m ≤ 256) :
    Calls Tryz.prog 70 #[.pointer (some ⟨k, 0, none⟩), .int .i64 m] W fun e w' => ∃ b : Bool, e = .returned (.bool b) ∧ St w k a n c zs R r h w' ∧ W.grownBy w' (some k) := by
  refine (l1Once_any k a n c zs m W s.cur hm0 hm1).mono ?_
  rintro e w' ⟨x, rfl, h3, h4⟩
  exact ⟨x, rfl, s.call h4 h3, h4⟩
theorem pick_st (ls : List Int) {b : Nat} (s : St w k a n c zs R r h W) (hl : Lit W b ls) (hm0 : 1 ≤ ls.length) (hm1 : ls.length ≤ 256) (hbk : b ≠ k) :
    Calls Tryz.prog 94 #[.pointer (some ⟨k, 0, none⟩), .slice (some ⟨b, 0, none⟩) ls.length ls.length] W fun e w' => ∃ v : Int, e = .returned (.int .i64 v) ∧ v ∈ ls ∧ St w k a n c zs R r h w' ∧ W.grownBy w' (some k) := by
  refine (l1PickInt_any k a n c zs b ls.length ls.length ls W s.cur hl.rd hm0 hm1 hbk).mono ?_
  rintro e w' ⟨j, hj, rfl, h3, h4⟩
  refine ⟨_, rfl, ?_, s.call h4 h3, h4⟩
  rw [List.getD_eq_getElem?_getD, List.getElem?_eq_getElem hj]
  exact List.getElem_mem _
end
theorem wrap_small {x : Int} (h0 : -9223372036854775808 ≤ x) (h1 : x ≤ 9223372036854775807) : IntKind.i64.wrap x = x := by
  rw [IntKind.wrap_i64]
  omega
theorem itm_ok {j y1 y2 y3 y4 y5 y6 : Int} (h0 : 0 ≤ j) (h0' : j < 6) (h1 : 0 ≤ y1) (h1' : y1 < 10) (h2 : 0 ≤ y2) (h2' : y2 < 10) (h3 : 0 ≤ y3) (h3' : y3 < 10) (h4 : 0 ≤ y4) (h4' : y4 < 60) (h5 : 0 ≤ y5) (h5' : y5 < 4) (h6 : 0 ≤ y6) (h6' : y6 < 4) :
    ItemV.ok ⟨3 * j, 1 + y1, 1 + y2, 1 + y3, 1 + y4, y5, 1 + y6⟩ = true := by
  simp [ItemV.ok, itemB, sidesB, inB]
  omega
theorem itmFacts {w : World} {b : Nat} {q : ItemV} (H : Blk w b (ItemV.cells q)) : w.cell? ⟨b, 0, none⟩ = some (.int .i64 q.id) ∧ w.cell? ⟨b, 1, none⟩ = some (.int .i64 q.wd) ∧ w.cell? ⟨b, 2, none⟩ = some (.int .i64 q.ht) ∧ w.cell? ⟨b, 3, none⟩ = some (.int .i64 q.dp) ∧ w.cell? ⟨b, 4, none⟩ = some (.int .i64 q.gram) ∧ w.cell? ⟨b, 5, none⟩ = some (.int .i64 q.cls) ∧ w.cell? ⟨b, 6, none⟩ = some (.int .i64 q.cnt) :=
  ⟨(H 0 (by simp [ItemV.cells])).1, (H 1 (by simp [ItemV.cells])).1, (H 2 (by simp [ItemV.cells])).1, (H 3 (by simp [ItemV.cells])).1, (H 4 (by simp [ItemV.cells])).1, (H 5 (by simp [ItemV.cells])).1, (H 6 (by simp [ItemV.cells])).1⟩
theorem itmFree {w : World} {b : Nat} {q : ItemV} (H : Blk w b (ItemV.cells q)) : w.frozen? ⟨b, 0, none⟩ = false ∧ w.frozen? ⟨b, 1, none⟩ = false ∧ w.frozen? ⟨b, 2, none⟩ = false ∧ w.frozen? ⟨b, 3, none⟩ = false ∧ w.frozen? ⟨b, 4, none⟩ = false ∧ w.frozen? ⟨b, 5, none⟩ = false ∧ w.frozen? ⟨b, 6, none⟩ = false :=
  ⟨(H 0 (by simp [ItemV.cells])).2, (H 1 (by simp [ItemV.cells])).2, (H 2 (by simp [ItemV.cells])).2, (H 3 (by simp [ItemV.cells])).2, (H 4 (by simp [ItemV.cells])).2, (H 5 (by simp [ItemV.cells])).2, (H 6 (by simp [ItemV.cells])).2⟩
theorem aft_far {h : ReqH} {g m cap : Nat} (hf : Far h g) : some g ≠ (Value.slice h.ai m cap).ownBlock := by
  intro e
  cases hx : h.ai with
  | none => rw [hx] at e; cases e
  | some x =>
    rw [hx] at e
    have : x.block = g := by simpa [Value.ownBlock] using e.symm
    exact hf.2.2 x hx this
theorem ok_sides {q : ItemV} {x y : Int} (h : q.ok = true) (h1 : 1 ≤ x) (h2 : x ≤ 2000) (h3 : 1 ≤ y) (h4 : y ≤ 2000) : ItemV.ok { q with wd := x, ht := y } = true := by
  simp [ItemV.ok, itemB, sidesB, inB] at h ⊢
  omega
theorem ok_dp {q : ItemV} {x : Int} (h : q.ok = true) (h1 : 1 ≤ x) (h2 : x ≤ 2000) : ItemV.ok { q with dp := x } = true := by
  simp [ItemV.ok, itemB, sidesB, inB] at h ⊢
  omega
theorem typ1 {i y1 y2 y3 y4 y5 y6 : Int} (h0 : 0 ≤ i) (h0' : i < 5) (h1 : 0 ≤ y1) (h1' : y1 < 9) (h2 : 0 ≤ y2) (h2' : y2 < 8) (h3 : 0 ≤ y3) (h3' : y3 < 9) (h4 : 0 ≤ y4) (h4' : y4 < 5) (h5 : 0 ≤ y5) (h5' : y5 < 90) (h6 : 0 ≤ y6) (h6' : y6 < 20) :
    TypeV.ok ⟨10 + i, 4 + y1, 3 + y2, 3 + y3, y4, 20 + y5, 1 + y6⟩ = true := by
  simp [TypeV.ok, typeB, sidesB, inB]
  omega
theorem typ0 {y1 y2 y3 : Int} (h1 : 0 ≤ y1) (h2 : y1 < 8) (h3 : y2 ∈ [60, 100, 140]) (h4 : y3 ∈ [9, 20]) : TypeV.ok ⟨7, 12, 10, 11, y1, y2, y3⟩ = true := by
  simp [TypeV.ok, typeB, sidesB, inB] at h3 h4 ⊢
  omega
/-- What is drawn first: within bounds. -/
structure Fst (x1 x2 x3 x4 x5 x6 : Int) (r : ReqV) : Prop where
  way : r.way = x1
  pal : r.pal = ⟨x2, x3, x4, x5⟩
  cl : r.classes = 1 + x6
  ms : r.master = 7
  ps : r.pairs.all pairB = true
theorem Fst.pairs {x1 x2 x3 x4 x5 x6 : Int} {r : ReqV} (f : Fst x1 x2 x3 x4 x5 x6 r) (ps : List PairV) (h : ps.all pairB = true) : Fst x1 x2 x3 x4 x5 x6 { r with pairs := r.pairs ++ ps } :=
  ⟨f.way, f.pal, f.cl, f.ms, by rw [List.all_append, f.ps, h]; rfl⟩
theorem rel17 {w : World} {k : Nat} {a : Option Addr} {n c : Nat} {zs : List Int} {R : Nat} {r : ReqV} {h' : ReqH} {W : World} {x1 x2 x3 x4 x5 x6 x7 : Int} {t : TypeV} {i : Nat} (f : Fst x1 x2 x3 x4 x5 x6 r) (hl : r.types.length = 1 + i) (hok : r.types.all TypeV.ok = true) (hi : r.items = []) (hp : r.pairs.length ≤ 16) (hix : (i : Int) < x7)
    (s : St w k a n c zs R { r with types := r.types ++ [t] } h' W) (ho : t.ok = true) : ∃ (j : Nat) (r : ReqV) (h : ReqH), (j : Int) ≤ x7 ∧ Value.int .i64 ((i : Int) + 1) = .int .i64 j ∧ St w k a n c zs R r h W ∧ Fst x1 x2 x3 x4 x5 x6 r ∧ r.types.length = 1 + j ∧ r.types.all TypeV.ok = true ∧ r.items = [] ∧ r.pairs.length ≤ 16 :=
  ⟨i + 1, _, _, by omega, by go_num, s, ⟨f.way, f.pal, f.cl, f.ms, f.ps⟩, by simp [hl]; omega, by simp [hok, ho], hi, hp⟩
theorem rel12 {w : World} {k : Nat} {a : Option Addr} {n c : Nat} {zs : List Int} {R : Nat} {r : ReqV} {h' : ReqH} {W : World} {x1 x2 x3 x4 x5 x6 : Int} {t : TypeV} (f : Fst x1 x2 x3 x4 x5 x6 r) (ht : r.types = []) (hi : r.items = []) (hl : r.pairs.length ≤ 16)
    (s : St w k a n c zs R { r with types := r.types ++ [t] } h' W) (ho : t.ok = true) : ∃ r h, St w k a n c zs R r h W ∧ Fst x1 x2 x3 x4 x5 x6 r ∧ r.types.length = 1 ∧ r.types.all TypeV.ok = true ∧ r.items = [] ∧ r.pairs.length ≤ 16 :=
  ⟨_, _, s, ⟨f.way, f.pal, f.cl, f.ms, f.ps⟩, by simp [ht], by simp [ht, ho], hi, hl⟩
theorem right_ok {x1 x2 x3 x4 x5 x6 : Int} {r : ReqV} (f : Fst x1 x2 x3 x4 x5 x6 r) (p1 : 0 ≤ x1) (q1 : x1 < 2) (p6 : 0 ≤ x6) (q6 : x6 < 4) (m2 : x2 = 20 ∨ x2 = 30 ∨ x2 = 37) (m3 : x3 = 20 ∨ x3 = 25 ∨ x3 = 40) (m4 : x4 = 15 ∨ x4 = 24 ∨ x4 = 50) (m5 : x5 = 150 ∨ x5 = 400 ∨ x5 = 5000)
    (ht1 : r.types.length ≤ 5) (ht2 : 1 ≤ r.types.length) (hto : r.types.all TypeV.ok = true) (hil : r.items.length ≤ 8) (hio : r.items.all ItemV.ok = true) (hcs : cntSum r.items ≤ 12) (hp : r.pairs.length ≤ 16) : boundsB r = true := by
  have e1 : inB r.way 0 1 = true := by rw [f.way, inB_iff]; omega
  have e2 : r.pal.ok = true := by
    rw [f.pal]
    simp [PalletV.ok, palletB, sidesB, inB]
    omega
  have e3 : inB r.classes 1 4 = true := by rw [f.cl, inB_iff]; omega
  have e4 : pairsB r.pairs = true := by simp [pairsB, hp, f.ps]
  have e5 : typesB r.types = true := by simp only [typesB, hto, Bool.and_true]; rw [inB_iff]; omega
  have e6 : inB r.master 0 999 = true := by rw [f.ms]; rfl
  have e7 : itemsB r.items = true := by simp [itemsB, hil, hio, hcs]
  simp [boundsB, e1, e2, e3, e4, e5, e6, e7]
set_option maxRecDepth 100000 in
set_option maxHeartbeats 4000000 in
theorem l2Right_any (k : Nat) (a : Option Addr) (n c : Nat) (zs : List Int) (w : World) (hc : Cur w k a n c zs) :
    Calls Tryz.prog 93 #[.pointer (some ⟨k, 0, none⟩)] w fun e w' => ∃ r h, e = .returned (reqVal r h) ∧ boundsB r = true ∧ Lst w.heap.size r h w' ∧ Cur w' k a n c zs ∧ w.grownBy w' (some k) := by
  have hkw : k < w.heap.size := by obtain ⟨_, _, _, _, h⟩ := hc.cells; exact lt_of_block h
  have HB := hide (fun hn x hx => ha_lt hc (World.grownBy.refl w none) hn x hx)
  have HC := hide hc
  clear hc
  go_enter Tryz.func93, Tryz.ntmps93
  go_wp2_with fail
  refine (l1Below_any k a n c zs 2 _ (by exact (unhide HC).mono ((Below.refl _ _).alloc (Nat.le_refl _) _)) (by omega) (by omega)).mono ?_
  rintro e w1 ⟨x1, rfl, p1, q1, hc1, hg1⟩
  have HC1 := hide hc1
  have HG1 := hide (gb_same (World.grownBy_alloc w _ (some k)) hg1)
  have HZ1 : Hid (Blk w1 w.heap.size zeroReq) := (Blk.allocAt zeroReq rfl).grown hg1 (by simp) (by intro e; injection e with e; omega)
  have z1 : w.heap.size < w1.heap.size := by have := hg1.size; simp at this; omega
  clear hc1 hg1
  go_wp2_with fail
  refine (pickL k a n c zs [20, 30, 37] _ (unhide HC1) (by decide) (by decide)).mono ?_
  rintro e w2 ⟨x2, rfl, m2, hc2, hg2⟩
  have HC2 := hide hc2
  have HG2 := hide (gb_same (unhide HG1) hg2)
  have HZ2 := hide ((unhide HZ1).grown hg2 z1 (by intro e; injection e with e; omega))
  have z2 : w.heap.size < w2.heap.size := Nat.lt_of_lt_of_le z1 hg2.size
  clear hc2 hg2 HC1 HG1 HZ1
  go_wp2_with fail
  refine (pickL k a n c zs [20, 25, 40] _ (unhide HC2) (by decide) (by decide)).mono ?_
  rintro e w3 ⟨x3, rfl, m3, hc3, hg3⟩
  have HC3 := hide hc3
  have HG3 := hide (gb_same (unhide HG2) hg3)
  have HZ3 := hide ((unhide HZ2).grown hg3 z2 (by intro e; injection e with e; omega))
  have z3 : w.heap.size < w3.heap.size := Nat.lt_of_lt_of_le z2 hg3.size
  clear hc3 hg3 HC2 HG2 HZ2
  go_wp2_with fail
  refine (pickL k a n c zs [15, 24, 50] _ (unhide HC3) (by decide) (by decide)).mono ?_
  rintro e w4 ⟨x4, rfl, m4, hc4, hg4⟩
  have HC4 := hide hc4
  have HG4 := hide (gb_same (unhide HG3) hg4)
  have HZ4 := hide ((unhide HZ3).grown hg4 z3 (by intro e; injection e with e; omega))
  have z4 : w.heap.size < w4.heap.size := Nat.lt_of_lt_of_le z3 hg4.size
  clear hc4 hg4 HC3 HG3 HZ3
  go_wp2_with fail
  refine (pickL k a n c zs [150, 400, 5000] _ (unhide HC4) (by decide) (by decide)).mono ?_
  rintro e w5 ⟨x5, rfl, m5, hc5, hg5⟩
  have HC5 := hide hc5
  have HG5 := hide (gb_same (unhide HG4) hg5)
  have HZ5 := hide ((unhide HZ4).grown hg5 z4 (by intro e; injection e with e; omega))
  have z5 : w.heap.size < w5.heap.size := Nat.lt_of_lt_of_le z4 hg5.size
  clear hc5 hg5 HC4 HG4 HZ4
  go_wp2_with fail
  refine (l1Below_any k a n c zs 4 _ (unhide HC5) (by omega) (by omega)).mono ?_
  rintro e w6 ⟨x6, rfl, p6, q6, hc6, hg6⟩
  have HC6 := hide hc6
  have HG6 := hide (gb_same (unhide HG5) hg6)
  have HZ6 := hide ((unhide HZ5).grown hg6 z5 (by intro e; injection e with e; omega))
  have z6 : w.heap.size < w6.heap.size := Nat.lt_of_lt_of_le z5 hg6.size
  clear hc6 hg6 HC5 HG5 HZ5
  simp only [List.mem_cons, List.not_mem_nil, or_false] at m2 m3 m4 m5
  go_wp2_with fail
  have S0 : Hid (St w k a n c zs w6.heap.size ⟨x1, ⟨x2, x3, x4, x5⟩, 1 + x6, [], [], 7, []⟩ ⟨none, none, none, 0, 0, 0⟩ (w6.alloc (.cells (reqCells ⟨x1, ⟨x2, x3, x4, x5⟩, 1 + x6, [], [], 7, []⟩ ⟨none, none, none, 0, 0, 0⟩).toArray 30))) :=
    ⟨(unhide HC6).mono ((Below.refl _ _).alloc (Nat.le_refl _) _), gb_any (unhide HG6) (World.grownBy_alloc w6 _ none) (fun g e => by cases e), (unhide HZ6).allocOld z6 _, Blk.allocAt _ rfl,
      ⟨World.ownsRow_nil _ _ _ _, World.ownsRow_nil _ _ _ _, World.ownsRow_nil _ _ _ _, fun x y hx => (by cases hx), fun x y hx => (by cases hx), fun x y hx => (by cases hx)⟩, hkw, z6, by simp, unhide HB⟩
  clear HC6 HG6 HZ6
  generalize w6.heap.size = R at S0 ⊢
  go_loopw [4, 5] (fun va vb wr => ∃ (A : Nat) (r : ReqV) (h : ReqH), (A : Int) ≤ 1 + x6 ∧ va = .int .i64 A ∧ St w k a n c zs R r h wr ∧ Fst x1 x2 x3 x4 x5 x6 r ∧ r.types = [] ∧ r.items = [] ∧ r.pairs.length ≤ A * A) (fun va _ _ => 5 - (intOf va).toNat)
  case atStart => exact ⟨0, _, _, by omega, rfl, unhide S0, ⟨rfl, rfl, rfl, rfl, rfl⟩, rfl, rfl, Nat.le_refl _⟩
  case round =>
    clear S0
    obtain ⟨A, r, h, hA, rfl, s, f, ht, hi, hl⟩ := hrel
    have b5 : wr.cell? ⟨R, 5, none⟩ = some (.int .i64 (1 + x6)) := by rw [← f.cl]; exact (s.box 5 (by simp [reqCells])).1
    have HS := hide s
    have HF := hide f
    have HT := hide ht
    have HI := hide hi
    clear s f ht hi
    by_cases hlt : (A : Int) < 1 + x6
    case neg =>
      go_wp2_with fail
      go_cut [] (fun wc => ∃ r h, St w k a n c zs R r h wc ∧ Fst x1 x2 x3 x4 x5 x6 r ∧ r.types.length = 1 ∧ r.types.all TypeV.ok = true ∧ r.items = [] ∧ r.pairs.length ≤ 16)
      case first =>
        obtain ⟨i0, hi0, hz0, hz1, hz2⟩ := info_parts Tryz.dinfoType
        have b7 : wr.cell? ⟨R, 7, none⟩ = some (.slice h.at' r.types.length h.ct) := ((unhide HS).box 7 (by simp [reqCells])).1
        have hz := (unhide HS).hz
        have hRk := (unhide HS).hR
        have hle : r.types.length ≤ 8 := by rw [unhide HT]; exact Nat.zero_le _
        have S1 := unhide HS
        have hl16 : r.pairs.length ≤ 16 := by have := Nat.mul_le_mul (show A ≤ 4 by omega) (show A ≤ 4 by omega); omega
        clear b5 HS HB HC m2 m3 m4 m5 p1 q1 z1 z2 z3 z4 z5 z6
        refine wp_region_noPanic ?_
        refine wp_region_to (S := fun w' => w'.cell? ⟨R, 7, none⟩ = some (.slice h.at' r.types.length h.ct)) (T := [12, 13, 14]) (by kernel_rfl) b7 (fun hHeld => ?_)
        refine wpTo_take (i := 0) (v := ?_) rfl (by kernel_rfl) (by kernel_rfl) (by kernel_rfl) (by kernel_rfl) (by kernel_rfl) (fun _ _ _ h => h) (Or.inl ⟨by rfl, ?_⟩) (by assumption) ?_
        rotate_left
        · intro w hSw
          (try dsimp only at hSw)
          go_simp <;> with_reducible rfl
        try simp only [Act.put, List.getElem_toArray, List.getElem_cons_zero, List.getElem_cons_succ, List.setIfInBounds_toArray, List.set_cons_zero, List.set_cons_succ]
        refine wpTo_take (i := 1) (v := ?_) rfl (by kernel_rfl) (by kernel_rfl) (by kernel_rfl) (by kernel_rfl) (by kernel_rfl) (fun _ _ _ h => h) (Or.inl ⟨by rfl, ?_⟩) (by assumption) ?_
        rotate_left
        · intro w hSw
          (try dsimp only at hSw)
          go_simp <;> with_reducible rfl
        try simp only [Act.put, List.getElem_toArray, List.getElem_cons_zero, List.getElem_cons_succ, List.setIfInBounds_toArray, List.set_cons_zero, List.set_cons_succ]
        refine wpTo_take (i := 2) (v := ?_) rfl (by kernel_rfl) (by kernel_rfl) (by kernel_rfl) (by kernel_rfl) (by kernel_rfl) (fun _ _ _ h => h) (Or.inl ⟨by rfl, ?_⟩) (by assumption) ?_
        rotate_left
        · intro w hSw
          (try dsimp only at hSw)
          go_simp <;> with_reducible rfl
        try simp only [Act.put, List.getElem_toArray, List.getElem_cons_zero, List.getElem_cons_succ, List.setIfInBounds_toArray, List.set_cons_zero, List.set_cons_succ]
        refine wpTo_take (i := 4) (v := ?_) rfl (by kernel_rfl) (by kernel_rfl) (by kernel_rfl) (by kernel_rfl) (by kernel_rfl) (fun _ _ _ h => h) (Or.inl ⟨by rfl, ?_⟩) (by assumption) ?_
        rotate_left
        · intro w hSw
          (try dsimp only at hSw)
          go_simp <;> with_reducible rfl
        try simp only [Act.put, List.getElem_toArray, List.getElem_cons_zero, List.getElem_cons_succ, List.setIfInBounds_toArray, List.set_cons_zero, List.set_cons_succ]
        refine wpTo_take (i := 7) (v := ?_) rfl (by kernel_rfl) (by kernel_rfl) (by kernel_rfl) (by kernel_rfl) (by kernel_rfl) (fun _ _ _ h => h) (Or.inl ⟨by rfl, ?_⟩) (by assumption) ?_
        rotate_left
        · intro w hSw
          (try dsimp only at hSw)
          go_simp <;> with_reducible rfl
        try simp only [Act.put, List.getElem_toArray, List.getElem_cons_zero, List.getElem_cons_succ, List.setIfInBounds_toArray, List.set_cons_zero, List.set_cons_succ]
        refine wpTo_ready (rs := [3, 5, 8]) (by kernel_rfl) (by simp) ?_
        refine AllTo.cons (o := _) rfl (fun K hK => ?_) ?_
        · (try simp only [List.getElem_toArray, List.getElem_cons_zero, List.getElem_cons_succ])
          go_simp
          refine (below_st (w := w) (a := a) (n := n) (c := c) (zs := zs) (R := R) (r := r) (h := h) 8 (by repeat' (first | refine St.alloc ?_ _ | refine St.drew ?_ | assumption)) (by omega) (by omega)).mono ?_
          rintro e wA ⟨y1, rfl, py1, qy1, sA, gA⟩
          have cA : wA.cell? ⟨R, 7, none⟩ = some (.slice h.at' r.types.length h.ct) := (sA.box 7 (by simp [reqCells])).1
          have rA := sA.hz
          have zA : wr.heap.size ≤ wA.heap.size := by (have h9 := gA.size; (try simp at h9); first | omega | exact h9)
          go_wp2_with fail
          refine hK.out _ _ (fun _ => ?_) ?_
          · first | assumption | go_keep
          clear hK K
          try simp only [Act.put, List.getElem_toArray, List.getElem_cons_zero, List.getElem_cons_succ, List.setIfInBounds_toArray, List.set_cons_zero, List.set_cons_succ]
          refine wpTo_ready (rs := [5, 8]) (by kernel_rfl) (by simp) ?_
          refine AllTo.cons (o := _) rfl (fun K hK => ?_) ?_
          · (try simp only [List.getElem_toArray, List.getElem_cons_zero, List.getElem_cons_succ])
            go_simp
            refine hK.out _ _ (fun _ => ?_) ?_
            · first | assumption | go_keep
            clear hK K
            try simp only [Act.put, List.getElem_toArray, List.getElem_cons_zero, List.getElem_cons_succ, List.setIfInBounds_toArray, List.set_cons_zero, List.set_cons_succ]
            refine wpTo_ready (rs := [6, 8]) (by kernel_rfl) (by simp) ?_
            refine AllTo.cons (o := _) rfl (fun K hK => ?_) ?_
            · (try simp only [List.getElem_toArray, List.getElem_cons_zero, List.getElem_cons_succ])
              go_simp
              refine (pick_st (w := w) (a := a) (n := n) (c := c) (zs := zs) (R := R) (r := r) (h := h) [60, 100, 140] (by repeat' (first | refine St.alloc ?_ _ | refine St.drew ?_ | assumption)) (by repeat' (first | (refine Lit.new (ls := [60, 100, 140]) ?_; first | rfl | (simp; done) | (simp; omega)) | refine Lit.alloc ?_ | refine Lit.drew ?_ | (refine Lit.call (by assumption) ?_ ?_; rotate_left; omega))) (by decide) (by decide) (by omega)).mono ?_
              rintro e wB ⟨y2, rfl, my2, sB, gB⟩
              have cB : wB.cell? ⟨R, 7, none⟩ = some (.slice h.at' r.types.length h.ct) := (sB.box 7 (by simp [reqCells])).1
              have rB := sB.hz
              have zB : wA.heap.size ≤ wB.heap.size := by (have h9 := gB.size; (try simp at h9); first | omega | exact h9)
              go_wp2_with fail
              refine hK.out _ _ (fun _ => ?_) ?_
              · first | assumption | go_keep
              clear hK K
              try simp only [Act.put, List.getElem_toArray, List.getElem_cons_zero, List.getElem_cons_succ, List.setIfInBounds_toArray, List.set_cons_zero, List.set_cons_succ]
              refine wpTo_ready (rs := [8]) (by kernel_rfl) (by simp) ?_
              refine AllTo.cons (o := _) rfl (fun K hK => ?_) ?_
              · (try simp only [List.getElem_toArray, List.getElem_cons_zero, List.getElem_cons_succ])
                go_simp
                refine hK.out _ _ (fun _ => ?_) ?_
                · first | assumption | go_keep
                clear hK K
                try simp only [Act.put, List.getElem_toArray, List.getElem_cons_zero, List.getElem_cons_succ, List.setIfInBounds_toArray, List.set_cons_zero, List.set_cons_succ]
                refine wpTo_ready (rs := [9]) (by kernel_rfl) (by simp) ?_
                refine AllTo.cons (o := _) rfl (fun K hK => ?_) ?_
                · (try simp only [List.getElem_toArray, List.getElem_cons_zero, List.getElem_cons_succ])
                  go_simp
                  refine (pick_st (w := w) (a := a) (n := n) (c := c) (zs := zs) (R := R) (r := r) (h := h) [9, 20] (by repeat' (first | refine St.alloc ?_ _ | refine St.drew ?_ | assumption)) (by repeat' (first | (refine Lit.new (ls := [9, 20]) ?_; first | rfl | (simp; done) | (simp; omega)) | refine Lit.alloc ?_ | refine Lit.drew ?_ | (refine Lit.call (by assumption) ?_ ?_; rotate_left; omega))) (by decide) (by decide) (by omega)).mono ?_
                  rintro e wC ⟨y3, rfl, my3, sC, gC⟩
                  have cC : wC.cell? ⟨R, 7, none⟩ = some (.slice h.at' r.types.length h.ct) := (sC.box 7 (by simp [reqCells])).1
                  have rC := sC.hz
                  have zC : wB.heap.size ≤ wC.heap.size := by (have h9 := gC.size; (try simp at h9); first | omega | exact h9)
                  go_wp2_with fail
                  refine hK.out _ _ (fun _ => ?_) ?_
                  · first | assumption | go_keep
                  clear hK K
                  try simp only [Act.put, List.getElem_toArray, List.getElem_cons_zero, List.getElem_cons_succ, List.setIfInBounds_toArray, List.set_cons_zero, List.set_cons_succ]
                  refine wpTo_take (i := 10) (v := ?_) rfl (by kernel_rfl) (by kernel_rfl) (by kernel_rfl) (by kernel_rfl) (by kernel_rfl) (fun _ _ _ h => h) (Or.inl ⟨by rfl, ?_⟩) (by assumption) ?_
                  rotate_left
                  · intro w hSw
                    (try dsimp only at hSw)
                    go_simp <;> with_reducible rfl
                  try simp only [Act.put, List.getElem_toArray, List.getElem_cons_zero, List.getElem_cons_succ, List.setIfInBounds_toArray, List.set_cons_zero, List.set_cons_succ]
                  refine wpTo_ready (rs := [11]) (by kernel_rfl) (by simp) ?_
                  refine AllTo.cons (o := _) rfl (fun K hK => ?_) ?_
                  · (try simp only [List.getElem_toArray, List.getElem_cons_zero, List.getElem_cons_succ])
                    go_simp
                    refine hK.out _ _ (fun _ => ?_) ?_
                    · first | assumption | go_keep
                    clear hK K
                    try simp only [Act.put, List.getElem_toArray, List.getElem_cons_zero, List.getElem_cons_succ, List.setIfInBounds_toArray, List.set_cons_zero, List.set_cons_succ]
                    refine wpTo_ready (rs := [12]) (by kernel_rfl) (by simp) ?_
                    refine AllTo.cons (o := _) rfl (fun K hK => ?_) ?_
                    · skip
                      refine step_append_lies _ (by rfl) _ _ 27 (by rfl) (R + 1) 69 i0 (.agg #[.int .i64 0, .int .i64 0, .int .i64 0, .int .i64 0, .int .i64 0, .int .i64 0, .int .i64 0]) 7 56 Tryz.underlying27 hi0 hz0 hz1 hz2 rfl (by omega) (.slice h.at' r.types.length h.ct) r.types.length (r.types.flatMap TypeV.cells) (by rfl) (sC.alloc _).lst.ot ⟨wC.heap.size, 0, none⟩ 1 1 (TypeV.cells ⟨7, 12, 10, 11, y1, y2, y3⟩) (by rfl) rfl (World.news_of_block (heap_alloc_new _ _)) (by simp [TypeV.cells, Value.oneCell']) (by omega) (by unfold maxLen; omega) (by omega) (by simp; omega) (wC.heap.size + 1) (by simp) ?_
                      intro g cap wD hown hgrow hat hltD
                      obtain ⟨cD, tD⟩ := (sC.alloc _).aftType hgrow
                      have HO := hide hown
                      have HGR := hide hgrow
                      have HAT := hide hat
                      clear hown hgrow hat
                      refine hK.out _ _ (fun hn => absurd (by decide) hn) ?_
                      clear hK K
                      try simp only [Act.put, List.getElem_toArray, List.getElem_cons_zero, List.getElem_cons_succ, List.setIfInBounds_toArray, List.set_cons_zero, List.set_cons_succ]
                      refine wpTo_ready (rs := [13]) (by kernel_rfl) (by simp) ?_
                      refine AllTo.cons (o := _) rfl (fun K hK => ?_) ?_
                      · (try simp only [List.getElem_toArray, List.getElem_cons_zero, List.getElem_cons_succ])
                        go_simp
                        refine hK.out _ _ (fun hn => absurd (by decide) hn) ?_
                        clear hK K
                        try simp only [Act.put, List.getElem_toArray, List.getElem_cons_zero, List.getElem_cons_succ, List.setIfInBounds_toArray, List.set_cons_zero, List.set_cons_succ]
                        refine wpTo_ready (rs := [14]) (by kernel_rfl) (by simp) ?_
                        refine AllTo.cons (o := _) rfl (fun K hK => ?_) ?_
                        · (try simp only [List.getElem_toArray, List.getElem_cons_zero, List.getElem_cons_succ])
                          go_simp
                          refine hK.out _ _ (fun hn => absurd (by decide) hn) ?_
                          clear hK K
                          try simp only [Act.put, List.getElem_toArray, List.getElem_cons_zero, List.getElem_cons_succ, List.setIfInBounds_toArray, List.set_cons_zero, List.set_cons_succ]
                          refine wpTo_done (by kernel_rfl) ?_ _
                          refine NoPanic.normal ?_
                          go_wp2_with fail
                          go_meet
                          case rel => exact rel12 (unhide HF) (unhide HT) (unhide HI) hl16 ((sC.alloc _).appType [⟨7, 12, 10, 11, y1, y2, y3⟩] (unhide HO) (unhide HGR) (unhide HAT) (Nat.le_of_eq (by simp))) (typ0 py1 qy1 my2 my3)
                        exact AllTo.nil
                      exact AllTo.nil
                    exact AllTo.nil
                  exact AllTo.nil
                exact AllTo.nil
              exact AllTo.nil
            refine AllTo.cons (o := _) rfl (fun K hK => ?_) ?_
            · (try simp only [List.getElem_toArray, List.getElem_cons_zero, List.getElem_cons_succ])
              go_simp
              refine hK.out _ _ (fun _ => ?_) ?_
              · first | assumption | go_keep
              clear hK K
              try simp only [Act.put, List.getElem_toArray, List.getElem_cons_zero, List.getElem_cons_succ, List.setIfInBounds_toArray, List.set_cons_zero, List.set_cons_succ]
              refine wpTo_ready (rs := [6]) (by kernel_rfl) (by simp) ?_
              refine AllTo.cons (o := _) rfl (fun K hK => ?_) ?_
              · (try simp only [List.getElem_toArray, List.getElem_cons_zero, List.getElem_cons_succ])
                go_simp
                refine (pick_st (w := w) (a := a) (n := n) (c := c) (zs := zs) (R := R) (r := r) (h := h) [60, 100, 140] (by repeat' (first | refine St.alloc ?_ _ | refine St.drew ?_ | assumption)) (by repeat' (first | (refine Lit.new (ls := [60, 100, 140]) ?_; first | rfl | (simp; done) | (simp; omega)) | refine Lit.alloc ?_ | refine Lit.drew ?_ | (refine Lit.call (by assumption) ?_ ?_; rotate_left; omega))) (by decide) (by decide) (by omega)).mono ?_
                rintro e wB ⟨y2, rfl, my2, sB, gB⟩
                have cB : wB.cell? ⟨R, 7, none⟩ = some (.slice h.at' r.types.length h.ct) := (sB.box 7 (by simp [reqCells])).1
                have rB := sB.hz
                have zB : wA.heap.size ≤ wB.heap.size := by (have h9 := gB.size; (try simp at h9); first | omega | exact h9)
                go_wp2_with fail
                refine hK.out _ _ (fun _ => ?_) ?_
                · first | assumption | go_keep
                clear hK K
                try simp only [Act.put, List.getElem_toArray, List.getElem_cons_zero, List.getElem_cons_succ, List.setIfInBounds_toArray, List.set_cons_zero, List.set_cons_succ]
                refine wpTo_ready (rs := [9]) (by kernel_rfl) (by simp) ?_
                refine AllTo.cons (o := _) rfl (fun K hK => ?_) ?_
                · (try simp only [List.getElem_toArray, List.getElem_cons_zero, List.getElem_cons_succ])
                  go_simp
                  refine (pick_st (w := w) (a := a) (n := n) (c := c) (zs := zs) (R := R) (r := r) (h := h) [9, 20] (by repeat' (first | refine St.alloc ?_ _ | refine St.drew ?_ | assumption)) (by repeat' (first | (refine Lit.new (ls := [9, 20]) ?_; first | rfl | (simp; done) | (simp; omega)) | refine Lit.alloc ?_ | refine Lit.drew ?_ | (refine Lit.call (by assumption) ?_ ?_; rotate_left; omega))) (by decide) (by decide) (by omega)).mono ?_
                  rintro e wC ⟨y3, rfl, my3, sC, gC⟩
                  have cC : wC.cell? ⟨R, 7, none⟩ = some (.slice h.at' r.types.length h.ct) := (sC.box 7 (by simp [reqCells])).1
                  have rC := sC.hz
                  have zC : wB.heap.size ≤ wC.heap.size := by (have h9 := gC.size; (try simp at h9); first | omega | exact h9)
                  go_wp2_with fail
                  refine hK.out _ _ (fun _ => ?_) ?_
                  · first | assumption | go_keep
                  clear hK K
                  try simp only [Act.put, List.getElem_toArray, List.getElem_cons_zero, List.getElem_cons_succ, List.setIfInBounds_toArray, List.set_cons_zero, List.set_cons_succ]
                  refine wpTo_take (i := 10) (v := ?_) rfl (by kernel_rfl) (by kernel_rfl) (by kernel_rfl) (by kernel_rfl) (by kernel_rfl) (fun _ _ _ h => h) (Or.inl ⟨by rfl, ?_⟩) (by assumption) ?_
                  rotate_left
                  · intro w hSw
                    (try dsimp only at hSw)
                    go_simp <;> with_reducible rfl
                  try simp only [Act.put, List.getElem_toArray, List.getElem_cons_zero, List.getElem_cons_succ, List.setIfInBounds_toArray, List.set_cons_zero, List.set_cons_succ]
                  refine wpTo_ready (rs := [11]) (by kernel_rfl) (by simp) ?_
                  refine AllTo.cons (o := _) rfl (fun K hK => ?_) ?_
                  · (try simp only [List.getElem_toArray, List.getElem_cons_zero, List.getElem_cons_succ])
                    go_simp
                    refine hK.out _ _ (fun _ => ?_) ?_
                    · first | assumption | go_keep
                    clear hK K
                    try simp only [Act.put, List.getElem_toArray, List.getElem_cons_zero, List.getElem_cons_succ, List.setIfInBounds_toArray, List.set_cons_zero, List.set_cons_succ]
                    refine wpTo_ready (rs := [12]) (by kernel_rfl) (by simp) ?_
                    refine AllTo.cons (o := _) rfl (fun K hK => ?_) ?_
                    · skip
                      refine step_append_lies _ (by rfl) _ _ 27 (by rfl) (R + 1) 69 i0 (.agg #[.int .i64 0, .int .i64 0, .int .i64 0, .int .i64 0, .int .i64 0, .int .i64 0, .int .i64 0]) 7 56 Tryz.underlying27 hi0 hz0 hz1 hz2 rfl (by omega) (.slice h.at' r.types.length h.ct) r.types.length (r.types.flatMap TypeV.cells) (by rfl) (sC.alloc _).lst.ot ⟨wC.heap.size, 0, none⟩ 1 1 (TypeV.cells ⟨7, 12, 10, 11, y1, y2, y3⟩) (by rfl) rfl (World.news_of_block (heap_alloc_new _ _)) (by simp [TypeV.cells, Value.oneCell']) (by omega) (by unfold maxLen; omega) (by omega) (by simp; omega) (wC.heap.size + 1) (by simp) ?_
                      intro g cap wD hown hgrow hat hltD
                      obtain ⟨cD, tD⟩ := (sC.alloc _).aftType hgrow
                      have HO := hide hown
                      have HGR := hide hgrow
                      have HAT := hide hat
                      clear hown hgrow hat
                      refine hK.out _ _ (fun hn => absurd (by decide) hn) ?_
                      clear hK K
                      try simp only [Act.put, List.getElem_toArray, List.getElem_cons_zero, List.getElem_cons_succ, List.setIfInBounds_toArray, List.set_cons_zero, List.set_cons_succ]
                      refine wpTo_ready (rs := [13]) (by kernel_rfl) (by simp) ?_
                      refine AllTo.cons (o := _) rfl (fun K hK => ?_) ?_
                      · (try simp only [List.getElem_toArray, List.getElem_cons_zero, List.getElem_cons_succ])
                        go_simp
                        refine hK.out _ _ (fun hn => absurd (by decide) hn) ?_
                        clear hK K
                        try simp only [Act.put, List.getElem_toArray, List.getElem_cons_zero, List.getElem_cons_succ, List.setIfInBounds_toArray, List.set_cons_zero, List.set_cons_succ]
                        refine wpTo_ready (rs := [14]) (by kernel_rfl) (by simp) ?_
                        refine AllTo.cons (o := _) rfl (fun K hK => ?_) ?_
                        · (try simp only [List.getElem_toArray, List.getElem_cons_zero, List.getElem_cons_succ])
                          go_simp
                          refine hK.out _ _ (fun hn => absurd (by decide) hn) ?_
                          clear hK K
                          try simp only [Act.put, List.getElem_toArray, List.getElem_cons_zero, List.getElem_cons_succ, List.setIfInBounds_toArray, List.set_cons_zero, List.set_cons_succ]
                          refine wpTo_done (by kernel_rfl) ?_ _
                          refine NoPanic.normal ?_
                          go_wp2_with fail
                          go_meet
                          case rel => exact rel12 (unhide HF) (unhide HT) (unhide HI) hl16 ((sC.alloc _).appType [⟨7, 12, 10, 11, y1, y2, y3⟩] (unhide HO) (unhide HGR) (unhide HAT) (Nat.le_of_eq (by simp))) (typ0 py1 qy1 my2 my3)
                        exact AllTo.nil
                      exact AllTo.nil
                    exact AllTo.nil
                  exact AllTo.nil
                exact AllTo.nil
              exact AllTo.nil
            exact AllTo.nil
          refine AllTo.cons (o := _) rfl (fun K hK => ?_) ?_
          · (try simp only [List.getElem_toArray, List.getElem_cons_zero, List.getElem_cons_succ])
            go_simp
            refine hK.out _ _ (fun _ => ?_) ?_
            · first | assumption | go_keep
            clear hK K
            try simp only [Act.put, List.getElem_toArray, List.getElem_cons_zero, List.getElem_cons_succ, List.setIfInBounds_toArray, List.set_cons_zero, List.set_cons_succ]
            refine wpTo_ready (rs := [5]) (by kernel_rfl) (by simp) ?_
            refine AllTo.cons (o := _) rfl (fun K hK => ?_) ?_
            · (try simp only [List.getElem_toArray, List.getElem_cons_zero, List.getElem_cons_succ])
              go_simp
              refine hK.out _ _ (fun _ => ?_) ?_
              · first | assumption | go_keep
              clear hK K
              try simp only [Act.put, List.getElem_toArray, List.getElem_cons_zero, List.getElem_cons_succ, List.setIfInBounds_toArray, List.set_cons_zero, List.set_cons_succ]
              refine wpTo_ready (rs := [6]) (by kernel_rfl) (by simp) ?_
              refine AllTo.cons (o := _) rfl (fun K hK => ?_) ?_
              · (try simp only [List.getElem_toArray, List.getElem_cons_zero, List.getElem_cons_succ])
                go_simp
                refine (pick_st (w := w) (a := a) (n := n) (c := c) (zs := zs) (R := R) (r := r) (h := h) [60, 100, 140] (by repeat' (first | refine St.alloc ?_ _ | refine St.drew ?_ | assumption)) (by repeat' (first | (refine Lit.new (ls := [60, 100, 140]) ?_; first | rfl | (simp; done) | (simp; omega)) | refine Lit.alloc ?_ | refine Lit.drew ?_ | (refine Lit.call (by assumption) ?_ ?_; rotate_left; omega))) (by decide) (by decide) (by omega)).mono ?_
                rintro e wB ⟨y2, rfl, my2, sB, gB⟩
                have cB : wB.cell? ⟨R, 7, none⟩ = some (.slice h.at' r.types.length h.ct) := (sB.box 7 (by simp [reqCells])).1
                have rB := sB.hz
                have zB : wA.heap.size ≤ wB.heap.size := by (have h9 := gB.size; (try simp at h9); first | omega | exact h9)
                go_wp2_with fail
                refine hK.out _ _ (fun _ => ?_) ?_
                · first | assumption | go_keep
                clear hK K
                try simp only [Act.put, List.getElem_toArray, List.getElem_cons_zero, List.getElem_cons_succ, List.setIfInBounds_toArray, List.set_cons_zero, List.set_cons_succ]
                refine wpTo_ready (rs := [9]) (by kernel_rfl) (by simp) ?_
                refine AllTo.cons (o := _) rfl (fun K hK => ?_) ?_
                · (try simp only [List.getElem_toArray, List.getElem_cons_zero, List.getElem_cons_succ])
                  go_simp
                  refine (pick_st (w := w) (a := a) (n := n) (c := c) (zs := zs) (R := R) (r := r) (h := h) [9, 20] (by repeat' (first | refine St.alloc ?_ _ | refine St.drew ?_ | assumption)) (by repeat' (first | (refine Lit.new (ls := [9, 20]) ?_; first | rfl | (simp; done) | (simp; omega)) | refine Lit.alloc ?_ | refine Lit.drew ?_ | (refine Lit.call (by assumption) ?_ ?_; rotate_left; omega))) (by decide) (by decide) (by omega)).mono ?_
                  rintro e wC ⟨y3, rfl, my3, sC, gC⟩
                  have cC : wC.cell? ⟨R, 7, none⟩ = some (.slice h.at' r.types.length h.ct) := (sC.box 7 (by simp [reqCells])).1
                  have rC := sC.hz
                  have zC : wB.heap.size ≤ wC.heap.size := by (have h9 := gC.size; (try simp at h9); first | omega | exact h9)
                  go_wp2_with fail
                  refine hK.out _ _ (fun _ => ?_) ?_
                  · first | assumption | go_keep
                  clear hK K
                  try simp only [Act.put, List.getElem_toArray, List.getElem_cons_zero, List.getElem_cons_succ, List.setIfInBounds_toArray, List.set_cons_zero, List.set_cons_succ]
                  refine wpTo_take (i := 10) (v := ?_) rfl (by kernel_rfl) (by kernel_rfl) (by kernel_rfl) (by kernel_rfl) (by kernel_rfl) (fun _ _ _ h => h) (Or.inl ⟨by rfl, ?_⟩) (by assumption) ?_
                  rotate_left
                  · intro w hSw
                    (try dsimp only at hSw)
                    go_simp <;> with_reducible rfl
                  try simp only [Act.put, List.getElem_toArray, List.getElem_cons_zero, List.getElem_cons_succ, List.setIfInBounds_toArray, List.set_cons_zero, List.set_cons_succ]
                  refine wpTo_ready (rs := [11]) (by kernel_rfl) (by simp) ?_
                  refine AllTo.cons (o := _) rfl (fun K hK => ?_) ?_
                  · (try simp only [List.getElem_toArray, List.getElem_cons_zero, List.getElem_cons_succ])
                    go_simp
                    refine hK.out _ _ (fun _ => ?_) ?_
                    · first | assumption | go_keep
                    clear hK K
                    try simp only [Act.put, List.getElem_toArray, List.getElem_cons_zero, List.getElem_cons_succ, List.setIfInBounds_toArray, List.set_cons_zero, List.set_cons_succ]
                    refine wpTo_ready (rs := [12]) (by kernel_rfl) (by simp) ?_
                    refine AllTo.cons (o := _) rfl (fun K hK => ?_) ?_
                    · skip
                      refine step_append_lies _ (by rfl) _ _ 27 (by rfl) (R + 1) 69 i0 (.agg #[.int .i64 0, .int .i64 0, .int .i64 0, .int .i64 0, .int .i64 0, .int .i64 0, .int .i64 0]) 7 56 Tryz.underlying27 hi0 hz0 hz1 hz2 rfl (by omega) (.slice h.at' r.types.length h.ct) r.types.length (r.types.flatMap TypeV.cells) (by rfl) (sC.alloc _).lst.ot ⟨wC.heap.size, 0, none⟩ 1 1 (TypeV.cells ⟨7, 12, 10, 11, y1, y2, y3⟩) (by rfl) rfl (World.news_of_block (heap_alloc_new _ _)) (by simp [TypeV.cells, Value.oneCell']) (by omega) (by unfold maxLen; omega) (by omega) (by simp; omega) (wC.heap.size + 1) (by simp) ?_
                      intro g cap wD hown hgrow hat hltD
                      obtain ⟨cD, tD⟩ := (sC.alloc _).aftType hgrow
                      have HO := hide hown
                      have HGR := hide hgrow
                      have HAT := hide hat
                      clear hown hgrow hat
                      refine hK.out _ _ (fun hn => absurd (by decide) hn) ?_
                      clear hK K
                      try simp only [Act.put, List.getElem_toArray, List.getElem_cons_zero, List.getElem_cons_succ, List.setIfInBounds_toArray, List.set_cons_zero, List.set_cons_succ]
                      refine wpTo_ready (rs := [13]) (by kernel_rfl) (by simp) ?_
                      refine AllTo.cons (o := _) rfl (fun K hK => ?_) ?_
                      · (try simp only [List.getElem_toArray, List.getElem_cons_zero, List.getElem_cons_succ])
                        go_simp
                        refine hK.out _ _ (fun hn => absurd (by decide) hn) ?_
                        clear hK K
                        try simp only [Act.put, List.getElem_toArray, List.getElem_cons_zero, List.getElem_cons_succ, List.setIfInBounds_toArray, List.set_cons_zero, List.set_cons_succ]
                        refine wpTo_ready (rs := [14]) (by kernel_rfl) (by simp) ?_
                        refine AllTo.cons (o := _) rfl (fun K hK => ?_) ?_
                        · (try simp only [List.getElem_toArray, List.getElem_cons_zero, List.getElem_cons_succ])
                          go_simp
                          refine hK.out _ _ (fun hn => absurd (by decide) hn) ?_
                          clear hK K
                          try simp only [Act.put, List.getElem_toArray, List.getElem_cons_zero, List.getElem_cons_succ, List.setIfInBounds_toArray, List.set_cons_zero, List.set_cons_succ]
                          refine wpTo_done (by kernel_rfl) ?_ _
                          refine NoPanic.normal ?_
                          go_wp2_with fail
                          go_meet
                          case rel => exact rel12 (unhide HF) (unhide HT) (unhide HI) hl16 ((sC.alloc _).appType [⟨7, 12, 10, 11, y1, y2, y3⟩] (unhide HO) (unhide HGR) (unhide HAT) (Nat.le_of_eq (by simp))) (typ0 py1 qy1 my2 my3)
                        exact AllTo.nil
                      exact AllTo.nil
                    exact AllTo.nil
                  exact AllTo.nil
                exact AllTo.nil
              exact AllTo.nil
            exact AllTo.nil
          exact AllTo.nil
        refine AllTo.cons (o := _) rfl (fun K hK => ?_) ?_
        · (try simp only [List.getElem_toArray, List.getElem_cons_zero, List.getElem_cons_succ])
          go_simp
          refine hK.out _ _ (fun _ => ?_) ?_
          · first | assumption | go_keep
          clear hK K
          try simp only [Act.put, List.getElem_toArray, List.getElem_cons_zero, List.getElem_cons_succ, List.setIfInBounds_toArray, List.set_cons_zero, List.set_cons_succ]
          refine wpTo_ready (rs := [3, 8]) (by kernel_rfl) (by simp) ?_
          refine AllTo.cons (o := _) rfl (fun K hK => ?_) ?_
          · (try simp only [List.getElem_toArray, List.getElem_cons_zero, List.getElem_cons_succ])
            go_simp
            refine (below_st (w := w) (a := a) (n := n) (c := c) (zs := zs) (R := R) (r := r) (h := h) 8 (by repeat' (first | refine St.alloc ?_ _ | refine St.drew ?_ | assumption)) (by omega) (by omega)).mono ?_
            rintro e wA ⟨y1, rfl, py1, qy1, sA, gA⟩
            have cA : wA.cell? ⟨R, 7, none⟩ = some (.slice h.at' r.types.length h.ct) := (sA.box 7 (by simp [reqCells])).1
            have rA := sA.hz
            have zA : wr.heap.size ≤ wA.heap.size := by (have h9 := gA.size; (try simp at h9); first | omega | exact h9)
            go_wp2_with fail
            refine hK.out _ _ (fun _ => ?_) ?_
            · first | assumption | go_keep
            clear hK K
            try simp only [Act.put, List.getElem_toArray, List.getElem_cons_zero, List.getElem_cons_succ, List.setIfInBounds_toArray, List.set_cons_zero, List.set_cons_succ]
            refine wpTo_ready (rs := [6, 8]) (by kernel_rfl) (by simp) ?_
            refine AllTo.cons (o := _) rfl (fun K hK => ?_) ?_
            · (try simp only [List.getElem_toArray, List.getElem_cons_zero, List.getElem_cons_succ])
              go_simp
              refine (pick_st (w := w) (a := a) (n := n) (c := c) (zs := zs) (R := R) (r := r) (h := h) [60, 100, 140] (by repeat' (first | refine St.alloc ?_ _ | refine St.drew ?_ | assumption)) (by repeat' (first | (refine Lit.new (ls := [60, 100, 140]) ?_; first | rfl | (simp; done) | (simp; omega)) | refine Lit.alloc ?_ | refine Lit.drew ?_ | (refine Lit.call (by assumption) ?_ ?_; rotate_left; omega))) (by decide) (by decide) (by omega)).mono ?_
              rintro e wB ⟨y2, rfl, my2, sB, gB⟩
              have cB : wB.cell? ⟨R, 7, none⟩ = some (.slice h.at' r.types.length h.ct) := (sB.box 7 (by simp [reqCells])).1
              have rB := sB.hz
              have zB : wA.heap.size ≤ wB.heap.size := by (have h9 := gB.size; (try simp at h9); first | omega | exact h9)
              go_wp2_with fail
              refine hK.out _ _ (fun _ => ?_) ?_
              · first | assumption | go_keep
              clear hK K
              try simp only [Act.put, List.getElem_toArray, List.getElem_cons_zero, List.getElem_cons_succ, List.setIfInBounds_toArray, List.set_cons_zero, List.set_cons_succ]
              refine wpTo_ready (rs := [8]) (by kernel_rfl) (by simp) ?_
              refine AllTo.cons (o := _) rfl (fun K hK => ?_) ?_
              · (try simp only [List.getElem_toArray, List.getElem_cons_zero, List.getElem_cons_succ])
                go_simp
                refine hK.out _ _ (fun _ => ?_) ?_
                · first | assumption | go_keep
                clear hK K
                try simp only [Act.put, List.getElem_toArray, List.getElem_cons_zero, List.getElem_cons_succ, List.setIfInBounds_toArray, List.set_cons_zero, List.set_cons_succ]
                refine wpTo_ready (rs := [9]) (by kernel_rfl) (by simp) ?_
                refine AllTo.cons (o := _) rfl (fun K hK => ?_) ?_
                · (try simp only [List.getElem_toArray, List.getElem_cons_zero, List.getElem_cons_succ])
                  go_simp
                  refine (pick_st (w := w) (a := a) (n := n) (c := c) (zs := zs) (R := R) (r := r) (h := h) [9, 20] (by repeat' (first | refine St.alloc ?_ _ | refine St.drew ?_ | assumption)) (by repeat' (first | (refine Lit.new (ls := [9, 20]) ?_; first | rfl | (simp; done) | (simp; omega)) | refine Lit.alloc ?_ | refine Lit.drew ?_ | (refine Lit.call (by assumption) ?_ ?_; rotate_left; omega))) (by decide) (by decide) (by omega)).mono ?_
                  rintro e wC ⟨y3, rfl, my3, sC, gC⟩
                  have cC : wC.cell? ⟨R, 7, none⟩ = some (.slice h.at' r.types.length h.ct) := (sC.box 7 (by simp [reqCells])).1
                  have rC := sC.hz
                  have zC : wB.heap.size ≤ wC.heap.size := by (have h9 := gC.size; (try simp at h9); first | omega | exact h9)
                  go_wp2_with fail
                  refine hK.out _ _ (fun _ => ?_) ?_
                  · first | assumption | go_keep
                  clear hK K
                  try simp only [Act.put, List.getElem_toArray, List.getElem_cons_zero, List.getElem_cons_succ, List.setIfInBounds_toArray, List.set_cons_zero, List.set_cons_succ]
                  refine wpTo_take (i := 10) (v := ?_) rfl (by kernel_rfl) (by kernel_rfl) (by kernel_rfl) (by kernel_rfl) (by kernel_rfl) (fun _ _ _ h => h) (Or.inl ⟨by rfl, ?_⟩) (by assumption) ?_
                  rotate_left
                  · intro w hSw
                    (try dsimp only at hSw)
                    go_simp <;> with_reducible rfl
                  try simp only [Act.put, List.getElem_toArray, List.getElem_cons_zero, List.getElem_cons_succ, List.setIfInBounds_toArray, List.set_cons_zero, List.set_cons_succ]
                  refine wpTo_ready (rs := [11]) (by kernel_rfl) (by simp) ?_
                  refine AllTo.cons (o := _) rfl (fun K hK => ?_) ?_
                  · (try simp only [List.getElem_toArray, List.getElem_cons_zero, List.getElem_cons_succ])
                    go_simp
                    refine hK.out _ _ (fun _ => ?_) ?_
                    · first | assumption | go_keep
                    clear hK K
                    try simp only [Act.put, List.getElem_toArray, List.getElem_cons_zero, List.getElem_cons_succ, List.setIfInBounds_toArray, List.set_cons_zero, List.set_cons_succ]
                    refine wpTo_ready (rs := [12]) (by kernel_rfl) (by simp) ?_
                    refine AllTo.cons (o := _) rfl (fun K hK => ?_) ?_
                    · skip
                      refine step_append_lies _ (by rfl) _ _ 27 (by rfl) (R + 1) 69 i0 (.agg #[.int .i64 0, .int .i64 0, .int .i64 0, .int .i64 0, .int .i64 0, .int .i64 0, .int .i64 0]) 7 56 Tryz.underlying27 hi0 hz0 hz1 hz2 rfl (by omega) (.slice h.at' r.types.length h.ct) r.types.length (r.types.flatMap TypeV.cells) (by rfl) (sC.alloc _).lst.ot ⟨wC.heap.size, 0, none⟩ 1 1 (TypeV.cells ⟨7, 12, 10, 11, y1, y2, y3⟩) (by rfl) rfl (World.news_of_block (heap_alloc_new _ _)) (by simp [TypeV.cells, Value.oneCell']) (by omega) (by unfold maxLen; omega) (by omega) (by simp; omega) (wC.heap.size + 1) (by simp) ?_
                      intro g cap wD hown hgrow hat hltD
                      obtain ⟨cD, tD⟩ := (sC.alloc _).aftType hgrow
                      have HO := hide hown
                      have HGR := hide hgrow
                      have HAT := hide hat
                      clear hown hgrow hat
                      refine hK.out _ _ (fun hn => absurd (by decide) hn) ?_
                      clear hK K
                      try simp only [Act.put, List.getElem_toArray, List.getElem_cons_zero, List.getElem_cons_succ, List.setIfInBounds_toArray, List.set_cons_zero, List.set_cons_succ]
                      refine wpTo_ready (rs := [13]) (by kernel_rfl) (by simp) ?_
                      refine AllTo.cons (o := _) rfl (fun K hK => ?_) ?_
                      · (try simp only [List.getElem_toArray, List.getElem_cons_zero, List.getElem_cons_succ])
                        go_simp
                        refine hK.out _ _ (fun hn => absurd (by decide) hn) ?_
                        clear hK K
                        try simp only [Act.put, List.getElem_toArray, List.getElem_cons_zero, List.getElem_cons_succ, List.setIfInBounds_toArray, List.set_cons_zero, List.set_cons_succ]
                        refine wpTo_ready (rs := [14]) (by kernel_rfl) (by simp) ?_
                        refine AllTo.cons (o := _) rfl (fun K hK => ?_) ?_
                        · (try simp only [List.getElem_toArray, List.getElem_cons_zero, List.getElem_cons_succ])
                          go_simp
                          refine hK.out _ _ (fun hn => absurd (by decide) hn) ?_
                          clear hK K
                          try simp only [Act.put, List.getElem_toArray, List.getElem_cons_zero, List.getElem_cons_succ, List.setIfInBounds_toArray, List.set_cons_zero, List.set_cons_succ]
                          refine wpTo_done (by kernel_rfl) ?_ _
                          refine NoPanic.normal ?_
                          go_wp2_with fail
                          go_meet
                          case rel => exact rel12 (unhide HF) (unhide HT) (unhide HI) hl16 ((sC.alloc _).appType [⟨7, 12, 10, 11, y1, y2, y3⟩] (unhide HO) (unhide HGR) (unhide HAT) (Nat.le_of_eq (by simp))) (typ0 py1 qy1 my2 my3)
                        exact AllTo.nil
                      exact AllTo.nil
                    exact AllTo.nil
                  exact AllTo.nil
                exact AllTo.nil
              exact AllTo.nil
            refine AllTo.cons (o := _) rfl (fun K hK => ?_) ?_
            · (try simp only [List.getElem_toArray, List.getElem_cons_zero, List.getElem_cons_succ])
              go_simp
              refine hK.out _ _ (fun _ => ?_) ?_
              · first | assumption | go_keep
              clear hK K
              try simp only [Act.put, List.getElem_toArray, List.getElem_cons_zero, List.getElem_cons_succ, List.setIfInBounds_toArray, List.set_cons_zero, List.set_cons_succ]
              refine wpTo_ready (rs := [6]) (by kernel_rfl) (by simp) ?_
              refine AllTo.cons (o := _) rfl (fun K hK => ?_) ?_
              · (try simp only [List.getElem_toArray, List.getElem_cons_zero, List.getElem_cons_succ])
                go_simp
                refine (pick_st (w := w) (a := a) (n := n) (c := c) (zs := zs) (R := R) (r := r) (h := h) [60, 100, 140] (by repeat' (first | refine St.alloc ?_ _ | refine St.drew ?_ | assumption)) (by repeat' (first | (refine Lit.new (ls := [60, 100, 140]) ?_; first | rfl | (simp; done) | (simp; omega)) | refine Lit.alloc ?_ | refine Lit.drew ?_ | (refine Lit.call (by assumption) ?_ ?_; rotate_left; omega))) (by decide) (by decide) (by omega)).mono ?_
                rintro e wB ⟨y2, rfl, my2, sB, gB⟩
                have cB : wB.cell? ⟨R, 7, none⟩ = some (.slice h.at' r.types.length h.ct) := (sB.box 7 (by simp [reqCells])).1
                have rB := sB.hz
                have zB : wA.heap.size ≤ wB.heap.size := by (have h9 := gB.size; (try simp at h9); first | omega | exact h9)
                go_wp2_with fail
                refine hK.out _ _ (fun _ => ?_) ?_
                · first | assumption | go_keep
                clear hK K
                try simp only [Act.put, List.getElem_toArray, List.getElem_cons_zero, List.getElem_cons_succ, List.setIfInBounds_toArray, List.set_cons_zero, List.set_cons_succ]
                refine wpTo_ready (rs := [9]) (by kernel_rfl) (by simp) ?_
                refine AllTo.cons (o := _) rfl (fun K hK => ?_) ?_
                · (try simp only [List.getElem_toArray, List.getElem_cons_zero, List.getElem_cons_succ])
                  go_simp
                  refine (pick_st (w := w) (a := a) (n := n) (c := c) (zs := zs) (R := R) (r := r) (h := h) [9, 20] (by repeat' (first | refine St.alloc ?_ _ | refine St.drew ?_ | assumption)) (by repeat' (first | (refine Lit.new (ls := [9, 20]) ?_; first | rfl | (simp; done) | (simp; omega)) | refine Lit.alloc ?_ | refine Lit.drew ?_ | (refine Lit.call (by assumption) ?_ ?_; rotate_left; omega))) (by decide) (by decide) (by omega)).mono ?_
                  rintro e wC ⟨y3, rfl, my3, sC, gC⟩
                  have cC : wC.cell? ⟨R, 7, none⟩ = some (.slice h.at' r.types.length h.ct) := (sC.box 7 (by simp [reqCells])).1
                  have rC := sC.hz
                  have zC : wB.heap.size ≤ wC.heap.size := by (have h9 := gC.size; (try simp at h9); first | omega | exact h9)
                  go_wp2_with fail
                  refine hK.out _ _ (fun _ => ?_) ?_
                  · first | assumption | go_keep
                  clear hK K
                  try simp only [Act.put, List.getElem_toArray, List.getElem_cons_zero, List.getElem_cons_succ, List.setIfInBounds_toArray, List.set_cons_zero, List.set_cons_succ]
                  refine wpTo_take (i := 10) (v := ?_) rfl (by kernel_rfl) (by kernel_rfl) (by kernel_rfl) (by kernel_rfl) (by kernel_rfl) (fun _ _ _ h => h) (Or.inl ⟨by rfl, ?_⟩) (by assumption) ?_
                  rotate_left
                  · intro w hSw
                    (try dsimp only at hSw)
                    go_simp <;> with_reducible rfl
                  try simp only [Act.put, List.getElem_toArray, List.getElem_cons_zero, List.getElem_cons_succ, List.setIfInBounds_toArray, List.set_cons_zero, List.set_cons_succ]
                  refine wpTo_ready (rs := [11]) (by kernel_rfl) (by simp) ?_
                  refine AllTo.cons (o := _) rfl (fun K hK => ?_) ?_
                  · (try simp only [List.getElem_toArray, List.getElem_cons_zero, List.getElem_cons_succ])
                    go_simp
                    refine hK.out _ _ (fun _ => ?_) ?_
                    · first | assumption | go_keep
                    clear hK K
                    try simp only [Act.put, List.getElem_toArray, List.getElem_cons_zero, List.getElem_cons_succ, List.setIfInBounds_toArray, List.set_cons_zero, List.set_cons_succ]
                    refine wpTo_ready (rs := [12]) (by kernel_rfl) (by simp) ?_
                    refine AllTo.cons (o := _) rfl (fun K hK => ?_) ?_
                    · skip
                      refine step_append_lies _ (by rfl) _ _ 27 (by rfl) (R + 1) 69 i0 (.agg #[.int .i64 0, .int .i64 0, .int .i64 0, .int .i64 0, .int .i64 0, .int .i64 0, .int .i64 0]) 7 56 Tryz.underlying27 hi0 hz0 hz1 hz2 rfl (by omega) (.slice h.at' r.types.length h.ct) r.types.length (r.types.flatMap TypeV.cells) (by rfl) (sC.alloc _).lst.ot ⟨wC.heap.size, 0, none⟩ 1 1 (TypeV.cells ⟨7, 12, 10, 11, y1, y2, y3⟩) (by rfl) rfl (World.news_of_block (heap_alloc_new _ _)) (by simp [TypeV.cells, Value.oneCell']) (by omega) (by unfold maxLen; omega) (by omega) (by simp; omega) (wC.heap.size + 1) (by simp) ?_
                      intro g cap wD hown hgrow hat hltD
                      obtain ⟨cD, tD⟩ := (sC.alloc _).aftType hgrow
                      have HO := hide hown
                      have HGR := hide hgrow
                      have HAT := hide hat
                      clear hown hgrow hat
                      refine hK.out _ _ (fun hn => absurd (by decide) hn) ?_
                      clear hK K
                      try simp only [Act.put, List.getElem_toArray, List.getElem_cons_zero, List.getElem_cons_succ, List.setIfInBounds_toArray, List.set_cons_zero, List.set_cons_succ]
                      refine wpTo_ready (rs := [13]) (by kernel_rfl) (by simp) ?_
                      refine AllTo.cons (o := _) rfl (fun K hK => ?_) ?_
                      · (try simp only [List.getElem_toArray, List.getElem_cons_zero, List.getElem_cons_succ])
                        go_simp
                        refine hK.out _ _ (fun hn => absurd (by decide) hn) ?_
                        clear hK K
                        try simp only [Act.put, List.getElem_toArray, List.getElem_cons_zero, List.getElem_cons_succ, List.setIfInBounds_toArray, List.set_cons_zero, List.set_cons_succ]
                        refine wpTo_ready (rs := [14]) (by kernel_rfl) (by simp) ?_
                        refine AllTo.cons (o := _) rfl (fun K hK => ?_) ?_
                        · (try simp only [List.getElem_toArray, List.getElem_cons_zero, List.getElem_cons_succ])
                          go_simp
                          refine hK.out _ _ (fun hn => absurd (by decide) hn) ?_
                          clear hK K
                          try simp only [Act.put, List.getElem_toArray, List.getElem_cons_zero, List.getElem_cons_succ, List.setIfInBounds_toArray, List.set_cons_zero, List.set_cons_succ]
                          refine wpTo_done (by kernel_rfl) ?_ _
                          refine NoPanic.normal ?_
                          go_wp2_with fail
                          go_meet
                          case rel => exact rel12 (unhide HF) (unhide HT) (unhide HI) hl16 ((sC.alloc _).appType [⟨7, 12, 10, 11, y1, y2, y3⟩] (unhide HO) (unhide HGR) (unhide HAT) (Nat.le_of_eq (by simp))) (typ0 py1 qy1 my2 my3)
                        exact AllTo.nil
                      exact AllTo.nil
                    exact AllTo.nil
                  exact AllTo.nil
                exact AllTo.nil
              exact AllTo.nil
            exact AllTo.nil
          refine AllTo.cons (o := _) rfl (fun K hK => ?_) ?_
          · (try simp only [List.getElem_toArray, List.getElem_cons_zero, List.getElem_cons_succ])
            go_simp
            refine hK.out _ _ (fun _ => ?_) ?_
            · first | assumption | go_keep
            clear hK K
            try simp only [Act.put, List.getElem_toArray, List.getElem_cons_zero, List.getElem_cons_succ, List.setIfInBounds_toArray, List.set_cons_zero, List.set_cons_succ]
            refine wpTo_ready (rs := [3]) (by kernel_rfl) (by simp) ?_
            refine AllTo.cons (o := _) rfl (fun K hK => ?_) ?_
            · (try simp only [List.getElem_toArray, List.getElem_cons_zero, List.getElem_cons_succ])
              go_simp
              refine (below_st (w := w) (a := a) (n := n) (c := c) (zs := zs) (R := R) (r := r) (h := h) 8 (by repeat' (first | refine St.alloc ?_ _ | refine St.drew ?_ | assumption)) (by omega) (by omega)).mono ?_
              rintro e wA ⟨y1, rfl, py1, qy1, sA, gA⟩
              have cA : wA.cell? ⟨R, 7, none⟩ = some (.slice h.at' r.types.length h.ct) := (sA.box 7 (by simp [reqCells])).1
              have rA := sA.hz
              have zA : wr.heap.size ≤ wA.heap.size := by (have h9 := gA.size; (try simp at h9); first | omega | exact h9)
              go_wp2_with fail
              refine hK.out _ _ (fun _ => ?_) ?_
              · first | assumption | go_keep
              clear hK K
              try simp only [Act.put, List.getElem_toArray, List.getElem_cons_zero, List.getElem_cons_succ, List.setIfInBounds_toArray, List.set_cons_zero, List.set_cons_succ]
              refine wpTo_ready (rs := [6]) (by kernel_rfl) (by simp) ?_
              refine AllTo.cons (o := _) rfl (fun K hK => ?_) ?_
              · (try simp only [List.getElem_toArray, List.getElem_cons_zero, List.getElem_cons_succ])
                go_simp
                refine (pick_st (w := w) (a := a) (n := n) (c := c) (zs := zs) (R := R) (r := r) (h := h) [60, 100, 140] (by repeat' (first | refine St.alloc ?_ _ | refine St.drew ?_ | assumption)) (by repeat' (first | (refine Lit.new (ls := [60, 100, 140]) ?_; first | rfl | (simp; done) | (simp; omega)) | refine Lit.alloc ?_ | refine Lit.drew ?_ | (refine Lit.call (by assumption) ?_ ?_; rotate_left; omega))) (by decide) (by decide) (by omega)).mono ?_
                rintro e wB ⟨y2, rfl, my2, sB, gB⟩
                have cB : wB.cell? ⟨R, 7, none⟩ = some (.slice h.at' r.types.length h.ct) := (sB.box 7 (by simp [reqCells])).1
                have rB := sB.hz
                have zB : wA.heap.size ≤ wB.heap.size := by (have h9 := gB.size; (try simp at h9); first | omega | exact h9)
                go_wp2_with fail
                refine hK.out _ _ (fun _ => ?_) ?_
                · first | assumption | go_keep
                clear hK K
                try simp only [Act.put, List.getElem_toArray, List.getElem_cons_zero, List.getElem_cons_succ, List.setIfInBounds_toArray, List.set_cons_zero, List.set_cons_succ]
                refine wpTo_ready (rs := [9]) (by kernel_rfl) (by simp) ?_
                refine AllTo.cons (o := _) rfl (fun K hK => ?_) ?_
                · (try simp only [List.getElem_toArray, List.getElem_cons_zero, List.getElem_cons_succ])
                  go_simp
                  refine (pick_st (w := w) (a := a) (n := n) (c := c) (zs := zs) (R := R) (r := r) (h := h) [9, 20] (by repeat' (first | refine St.alloc ?_ _ | refine St.drew ?_ | assumption)) (by repeat' (first | (refine Lit.new (ls := [9, 20]) ?_; first | rfl | (simp; done) | (simp; omega)) | refine Lit.alloc ?_ | refine Lit.drew ?_ | (refine Lit.call (by assumption) ?_ ?_; rotate_left; omega))) (by decide) (by decide) (by omega)).mono ?_
                  rintro e wC ⟨y3, rfl, my3, sC, gC⟩
                  have cC : wC.cell? ⟨R, 7, none⟩ = some (.slice h.at' r.types.length h.ct) := (sC.box 7 (by simp [reqCells])).1
                  have rC := sC.hz
                  have zC : wB.heap.size ≤ wC.heap.size := by (have h9 := gC.size; (try simp at h9); first | omega | exact h9)
                  go_wp2_with fail
                  refine hK.out _ _ (fun _ => ?_) ?_
                  · first | assumption | go_keep
                  clear hK K
                  try simp only [Act.put, List.getElem_toArray, List.getElem_cons_zero, List.getElem_cons_succ, List.setIfInBounds_toArray, List.set_cons_zero, List.set_cons_succ]
                  refine wpTo_take (i := 10) (v := ?_) rfl (by kernel_rfl) (by kernel_rfl) (by kernel_rfl) (by kernel_rfl) (by kernel_rfl) (fun _ _ _ h => h) (Or.inl ⟨by rfl, ?_⟩) (by assumption) ?_
                  rotate_left
                  · intro w hSw
                    (try dsimp only at hSw)
                    go_simp <;> with_reducible rfl
                  try simp only [Act.put, List.getElem_toArray, List.getElem_cons_zero, List.getElem_cons_succ, List.setIfInBounds_toArray, List.set_cons_zero, List.set_cons_succ]
                  refine wpTo_ready (rs := [11]) (by kernel_rfl) (by simp) ?_
                  refine AllTo.cons (o := _) rfl (fun K hK => ?_) ?_
                  · (try simp only [List.getElem_toArray, List.getElem_cons_zero, List.getElem_cons_succ])
                    go_simp
                    refine hK.out _ _ (fun _ => ?_) ?_
                    · first | assumption | go_keep
                    clear hK K
                    try simp only [Act.put, List.getElem_toArray, List.getElem_cons_zero, List.getElem_cons_succ, List.setIfInBounds_toArray, List.set_cons_zero, List.set_cons_succ]
                    refine wpTo_ready (rs := [12]) (by kernel_rfl) (by simp) ?_
                    refine AllTo.cons (o := _) rfl (fun K hK => ?_) ?_
                    · skip
                      refine step_append_lies _ (by rfl) _ _ 27 (by rfl) (R + 1) 69 i0 (.agg #[.int .i64 0, .int .i64 0, .int .i64 0, .int .i64 0, .int .i64 0, .int .i64 0, .int .i64 0]) 7 56 Tryz.underlying27 hi0 hz0 hz1 hz2 rfl (by omega) (.slice h.at' r.types.length h.ct) r.types.length (r.types.flatMap TypeV.cells) (by rfl) (sC.alloc _).lst.ot ⟨wC.heap.size, 0, none⟩ 1 1 (TypeV.cells ⟨7, 12, 10, 11, y1, y2, y3⟩) (by rfl) rfl (World.news_of_block (heap_alloc_new _ _)) (by simp [TypeV.cells, Value.oneCell']) (by omega) (by unfold maxLen; omega) (by omega) (by simp; omega) (wC.heap.size + 1) (by simp) ?_
                      intro g cap wD hown hgrow hat hltD
                      obtain ⟨cD, tD⟩ := (sC.alloc _).aftType hgrow
                      have HO := hide hown
                      have HGR := hide hgrow
                      have HAT := hide hat
                      clear hown hgrow hat
                      refine hK.out _ _ (fun hn => absurd (by decide) hn) ?_
                      clear hK K
                      try simp only [Act.put, List.getElem_toArray, List.getElem_cons_zero, List.getElem_cons_succ, List.setIfInBounds_toArray, List.set_cons_zero, List.set_cons_succ]
                      refine wpTo_ready (rs := [13]) (by kernel_rfl) (by simp) ?_
                      refine AllTo.cons (o := _) rfl (fun K hK => ?_) ?_
                      · (try simp only [List.getElem_toArray, List.getElem_cons_zero, List.getElem_cons_succ])
                        go_simp
                        refine hK.out _ _ (fun hn => absurd (by decide) hn) ?_
                        clear hK K
                        try simp only [Act.put, List.getElem_toArray, List.getElem_cons_zero, List.getElem_cons_succ, List.setIfInBounds_toArray, List.set_cons_zero, List.set_cons_succ]
                        refine wpTo_ready (rs := [14]) (by kernel_rfl) (by simp) ?_
                        refine AllTo.cons (o := _) rfl (fun K hK => ?_) ?_
                        · (try simp only [List.getElem_toArray, List.getElem_cons_zero, List.getElem_cons_succ])
                          go_simp
                          refine hK.out _ _ (fun hn => absurd (by decide) hn) ?_
                          clear hK K
                          try simp only [Act.put, List.getElem_toArray, List.getElem_cons_zero, List.getElem_cons_succ, List.setIfInBounds_toArray, List.set_cons_zero, List.set_cons_succ]
                          refine wpTo_done (by kernel_rfl) ?_ _
                          refine NoPanic.normal ?_
                          go_wp2_with fail
                          go_meet
                          case rel => exact rel12 (unhide HF) (unhide HT) (unhide HI) hl16 ((sC.alloc _).appType [⟨7, 12, 10, 11, y1, y2, y3⟩] (unhide HO) (unhide HGR) (unhide HAT) (Nat.le_of_eq (by simp))) (typ0 py1 qy1 my2 my3)
                        exact AllTo.nil
                      exact AllTo.nil
                    exact AllTo.nil
                  exact AllTo.nil
                exact AllTo.nil
              exact AllTo.nil
            exact AllTo.nil
          exact AllTo.nil
        refine AllTo.cons (o := _) rfl (fun K hK => ?_) ?_
        · (try simp only [List.getElem_toArray, List.getElem_cons_zero, List.getElem_cons_succ])
          go_simp
          refine hK.out _ _ (fun _ => ?_) ?_
          · first | assumption | go_keep
          clear hK K
          try simp only [Act.put, List.getElem_toArray, List.getElem_cons_zero, List.getElem_cons_succ, List.setIfInBounds_toArray, List.set_cons_zero, List.set_cons_succ]
          refine wpTo_ready (rs := [3, 5]) (by kernel_rfl) (by simp) ?_
          refine AllTo.cons (o := _) rfl (fun K hK => ?_) ?_
          · (try simp only [List.getElem_toArray, List.getElem_cons_zero, List.getElem_cons_succ])
            go_simp
            refine (below_st (w := w) (a := a) (n := n) (c := c) (zs := zs) (R := R) (r := r) (h := h) 8 (by repeat' (first | refine St.alloc ?_ _ | refine St.drew ?_ | assumption)) (by omega) (by omega)).mono ?_
            rintro e wA ⟨y1, rfl, py1, qy1, sA, gA⟩
            have cA : wA.cell? ⟨R, 7, none⟩ = some (.slice h.at' r.types.length h.ct) := (sA.box 7 (by simp [reqCells])).1
            have rA := sA.hz
            have zA : wr.heap.size ≤ wA.heap.size := by (have h9 := gA.size; (try simp at h9); first | omega | exact h9)
            go_wp2_with fail
            refine hK.out _ _ (fun _ => ?_) ?_
            · first | assumption | go_keep
            clear hK K
            try simp only [Act.put, List.getElem_toArray, List.getElem_cons_zero, List.getElem_cons_succ, List.setIfInBounds_toArray, List.set_cons_zero, List.set_cons_succ]
            refine wpTo_ready (rs := [5]) (by kernel_rfl) (by simp) ?_
            refine AllTo.cons (o := _) rfl (fun K hK => ?_) ?_
            · (try simp only [List.getElem_toArray, List.getElem_cons_zero, List.getElem_cons_succ])
              go_simp
              refine hK.out _ _ (fun _ => ?_) ?_
              · first | assumption | go_keep
              clear hK K
              try simp only [Act.put, List.getElem_toArray, List.getElem_cons_zero, List.getElem_cons_succ, List.setIfInBounds_toArray, List.set_cons_zero, List.set_cons_succ]
              refine wpTo_ready (rs := [6]) (by kernel_rfl) (by simp) ?_
              refine AllTo.cons (o := _) rfl (fun K hK => ?_) ?_
              · (try simp only [List.getElem_toArray, List.getElem_cons_zero, List.getElem_cons_succ])
                go_simp
                refine (pick_st (w := w) (a := a) (n := n) (c := c) (zs := zs) (R := R) (r := r) (h := h) [60, 100, 140] (by repeat' (first | refine St.alloc ?_ _ | refine St.drew ?_ | assumption)) (by repeat' (first | (refine Lit.new (ls := [60, 100, 140]) ?_; first | rfl | (simp; done) | (simp; omega)) | refine Lit.alloc ?_ | refine Lit.drew ?_ | (refine Lit.call (by assumption) ?_ ?_; rotate_left; omega))) (by decide) (by decide) (by omega)).mono ?_
                rintro e wB ⟨y2, rfl, my2, sB, gB⟩
                have cB : wB.cell? ⟨R, 7, none⟩ = some (.slice h.at' r.types.length h.ct) := (sB.box 7 (by simp [reqCells])).1
                have rB := sB.hz
                have zB : wA.heap.size ≤ wB.heap.size := by (have h9 := gB.size; (try simp at h9); first | omega | exact h9)
                go_wp2_with fail
                refine hK.out _ _ (fun _ => ?_) ?_
                · first | assumption | go_keep
                clear hK K
                try simp only [Act.put, List.getElem_toArray, List.getElem_cons_zero, List.getElem_cons_succ, List.setIfInBounds_toArray, List.set_cons_zero, List.set_cons_succ]
                refine wpTo_ready (rs := [9]) (by kernel_rfl) (by simp) ?_
                refine AllTo.cons (o := _) rfl (fun K hK => ?_) ?_
                · (try simp only [List.getElem_toArray, List.getElem_cons_zero, List.getElem_cons_succ])
                  go_simp
                  refine (pick_st (w := w) (a := a) (n := n) (c := c) (zs := zs) (R := R) (r := r) (h := h) [9, 20] (by repeat' (first | refine St.alloc ?_ _ | refine St.drew ?_ | assumption)) (by repeat' (first | (refine Lit.new (ls := [9, 20]) ?_; first | rfl | (simp; done) | (simp; omega)) | refine Lit.alloc ?_ | refine Lit.drew ?_ | (refine Lit.call (by assumption) ?_ ?_; rotate_left; omega))) (by decide) (by decide) (by omega)).mono ?_
                  rintro e wC ⟨y3, rfl, my3, sC, gC⟩
                  have cC : wC.cell? ⟨R, 7, none⟩ = some (.slice h.at' r.types.length h.ct) := (sC.box 7 (by simp [reqCells])).1
                  have rC := sC.hz
                  have zC : wB.heap.size ≤ wC.heap.size := by (have h9 := gC.size; (try simp at h9); first | omega | exact h9)
                  go_wp2_with fail
                  refine hK.out _ _ (fun _ => ?_) ?_
                  · first | assumption | go_keep
                  clear hK K
                  try simp only [Act.put, List.getElem_toArray, List.getElem_cons_zero, List.getElem_cons_succ, List.setIfInBounds_toArray, List.set_cons_zero, List.set_cons_succ]
                  refine wpTo_take (i := 10) (v := ?_) rfl (by kernel_rfl) (by kernel_rfl) (by kernel_rfl) (by kernel_rfl) (by kernel_rfl) (fun _ _ _ h => h) (Or.inl ⟨by rfl, ?_⟩) (by assumption) ?_
                  rotate_left
                  · intro w hSw
                    (try dsimp only at hSw)
                    go_simp <;> with_reducible rfl
                  try simp only [Act.put, List.getElem_toArray, List.getElem_cons_zero, List.getElem_cons_succ, List.setIfInBounds_toArray, List.set_cons_zero, List.set_cons_succ]
                  refine wpTo_ready (rs := [11]) (by kernel_rfl) (by simp) ?_
                  refine AllTo.cons (o := _) rfl (fun K hK => ?_) ?_
                  · (try simp only [List.getElem_toArray, List.getElem_cons_zero, List.getElem_cons_succ])
                    go_simp
                    refine hK.out _ _ (fun _ => ?_) ?_
                    · first | assumption | go_keep
                    clear hK K
                    try simp only [Act.put, List.getElem_toArray, List.getElem_cons_zero, List.getElem_cons_succ, List.setIfInBounds_toArray, List.set_cons_zero, List.set_cons_succ]
                    refine wpTo_ready (rs := [12]) (by kernel_rfl) (by simp) ?_
                    refine AllTo.cons (o := _) rfl (fun K hK => ?_) ?_
                    · skip
                      refine step_append_lies _ (by rfl) _ _ 27 (by rfl) (R + 1) 69 i0 (.agg #[.int .i64 0, .int .i64 0, .int .i64 0, .int .i64 0, .int .i64 0, .int .i64 0, .int .i64 0]) 7 56 Tryz.underlying27 hi0 hz0 hz1 hz2 rfl (by omega) (.slice h.at' r.types.length h.ct) r.types.length (r.types.flatMap TypeV.cells) (by rfl) (sC.alloc _).lst.ot ⟨wC.heap.size, 0, none⟩ 1 1 (TypeV.cells ⟨7, 12, 10, 11, y1, y2, y3⟩) (by rfl) rfl (World.news_of_block (heap_alloc_new _ _)) (by simp [TypeV.cells, Value.oneCell']) (by omega) (by unfold maxLen; omega) (by omega) (by simp; omega) (wC.heap.size + 1) (by simp) ?_
                      intro g cap wD hown hgrow hat hltD
                      obtain ⟨cD, tD⟩ := (sC.alloc _).aftType hgrow
                      have HO := hide hown
                      have HGR := hide hgrow
                      have HAT := hide hat
                      clear hown hgrow hat
                      refine hK.out _ _ (fun hn => absurd (by decide) hn) ?_
                      clear hK K
                      try simp only [Act.put, List.getElem_toArray, List.getElem_cons_zero, List.getElem_cons_succ, List.setIfInBounds_toArray, List.set_cons_zero, List.set_cons_succ]
                      refine wpTo_ready (rs := [13]) (by kernel_rfl) (by simp) ?_
                      refine AllTo.cons (o := _) rfl (fun K hK => ?_) ?_
                      · (try simp only [List.getElem_toArray, List.getElem_cons_zero, List.getElem_cons_succ])
                        go_simp
                        refine hK.out _ _ (fun hn => absurd (by decide) hn) ?_
                        clear hK K
                        try simp only [Act.put, List.getElem_toArray, List.getElem_cons_zero, List.getElem_cons_succ, List.setIfInBounds_toArray, List.set_cons_zero, List.set_cons_succ]
                        refine wpTo_ready (rs := [14]) (by kernel_rfl) (by simp) ?_
                        refine AllTo.cons (o := _) rfl (fun K hK => ?_) ?_
                        · (try simp only [List.getElem_toArray, List.getElem_cons_zero, List.getElem_cons_succ])
                          go_simp
                          refine hK.out _ _ (fun hn => absurd (by decide) hn) ?_
                          clear hK K
                          try simp only [Act.put, List.getElem_toArray, List.getElem_cons_zero, List.getElem_cons_succ, List.setIfInBounds_toArray, List.set_cons_zero, List.set_cons_succ]
                          refine wpTo_done (by kernel_rfl) ?_ _
                          refine NoPanic.normal ?_
                          go_wp2_with fail
                          go_meet
                          case rel => exact rel12 (unhide HF) (unhide HT) (unhide HI) hl16 ((sC.alloc _).appType [⟨7, 12, 10, 11, y1, y2, y3⟩] (unhide HO) (unhide HGR) (unhide HAT) (Nat.le_of_eq (by simp))) (typ0 py1 qy1 my2 my3)
                        exact AllTo.nil
                      exact AllTo.nil
                    exact AllTo.nil
                  exact AllTo.nil
                exact AllTo.nil
              exact AllTo.nil
            exact AllTo.nil
          refine AllTo.cons (o := _) rfl (fun K hK => ?_) ?_
          · (try simp only [List.getElem_toArray, List.getElem_cons_zero, List.getElem_cons_succ])
            go_simp
            refine hK.out _ _ (fun _ => ?_) ?_
            · first | assumption | go_keep
            clear hK K
            try simp only [Act.put, List.getElem_toArray, List.getElem_cons_zero, List.getElem_cons_succ, List.setIfInBounds_toArray, List.set_cons_zero, List.set_cons_succ]
            refine wpTo_ready (rs := [3]) (by kernel_rfl) (by simp) ?_
            refine AllTo.cons (o := _) rfl (fun K hK => ?_) ?_
            · (try simp only [List.getElem_toArray, List.getElem_cons_zero, List.getElem_cons_succ])
              go_simp
              refine (below_st (w := w) (a := a) (n := n) (c := c) (zs := zs) (R := R) (r := r) (h := h) 8 (by repeat' (first | refine St.alloc ?_ _ | refine St.drew ?_ | assumption)) (by omega) (by omega)).mono ?_
              rintro e wA ⟨y1, rfl, py1, qy1, sA, gA⟩
              have cA : wA.cell? ⟨R, 7, none⟩ = some (.slice h.at' r.types.length h.ct) := (sA.box 7 (by simp [reqCells])).1
              have rA := sA.hz
              have zA : wr.heap.size ≤ wA.heap.size := by (have h9 := gA.size; (try simp at h9); first | omega | exact h9)
              go_wp2_with fail
              refine hK.out _ _ (fun _ => ?_) ?_
              · first | assumption | go_keep
              clear hK K
              try simp only [Act.put, List.getElem_toArray, List.getElem_cons_zero, List.getElem_cons_succ, List.setIfInBounds_toArray, List.set_cons_zero, List.set_cons_succ]
              refine wpTo_ready (rs := [6]) (by kernel_rfl) (by simp) ?_
              refine AllTo.cons (o := _) rfl (fun K hK => ?_) ?_
              · (try simp only [List.getElem_toArray, List.getElem_cons_zero, List.getElem_cons_succ])
                go_simp
                refine (pick_st (w := w) (a := a) (n := n) (c := c) (zs := zs) (R := R) (r := r) (h := h) [60, 100, 140] (by repeat' (first | refine St.alloc ?_ _ | refine St.drew ?_ | assumption)) (by repeat' (first | (refine Lit.new (ls := [60, 100, 140]) ?_; first | rfl | (simp; done) | (simp; omega)) | refine Lit.alloc ?_ | refine Lit.drew ?_ | (refine Lit.call (by assumption) ?_ ?_; rotate_left; omega))) (by decide) (by decide) (by omega)).mono ?_
                rintro e wB ⟨y2, rfl, my2, sB, gB⟩
                have cB : wB.cell? ⟨R, 7, none⟩ = some (.slice h.at' r.types.length h.ct) := (sB.box 7 (by simp [reqCells])).1
                have rB := sB.hz
                have zB : wA.heap.size ≤ wB.heap.size := by (have h9 := gB.size; (try simp at h9); first | omega | exact h9)
                go_wp2_with fail
                refine hK.out _ _ (fun _ => ?_) ?_
                · first | assumption | go_keep
                clear hK K
                try simp only [Act.put, List.getElem_toArray, List.getElem_cons_zero, List.getElem_cons_succ, List.setIfInBounds_toArray, List.set_cons_zero, List.set_cons_succ]
                refine wpTo_ready (rs := [9]) (by kernel_rfl) (by simp) ?_
                refine AllTo.cons (o := _) rfl (fun K hK => ?_) ?_
                · (try simp only [List.getElem_toArray, List.getElem_cons_zero, List.getElem_cons_succ])
                  go_simp
                  refine (pick_st (w := w) (a := a) (n := n) (c := c) (zs := zs) (R := R) (r := r) (h := h) [9, 20] (by repeat' (first | refine St.alloc ?_ _ | refine St.drew ?_ | assumption)) (by repeat' (first | (refine Lit.new (ls := [9, 20]) ?_; first | rfl | (simp; done) | (simp; omega)) | refine Lit.alloc ?_ | refine Lit.drew ?_ | (refine Lit.call (by assumption) ?_ ?_; rotate_left; omega))) (by decide) (by decide) (by omega)).mono ?_
                  rintro e wC ⟨y3, rfl, my3, sC, gC⟩
                  have cC : wC.cell? ⟨R, 7, none⟩ = some (.slice h.at' r.types.length h.ct) := (sC.box 7 (by simp [reqCells])).1
                  have rC := sC.hz
                  have zC : wB.heap.size ≤ wC.heap.size := by (have h9 := gC.size; (try simp at h9); first | omega | exact h9)
                  go_wp2_with fail
                  refine hK.out _ _ (fun _ => ?_) ?_
                  · first | assumption | go_keep
                  clear hK K
                  try simp only [Act.put, List.getElem_toArray, List.getElem_cons_zero, List.getElem_cons_succ, List.setIfInBounds_toArray, List.set_cons_zero, List.set_cons_succ]
                  refine wpTo_take (i := 10) (v := ?_) rfl (by kernel_rfl) (by kernel_rfl) (by kernel_rfl) (by kernel_rfl) (by kernel_rfl) (fun _ _ _ h => h) (Or.inl ⟨by rfl, ?_⟩) (by assumption) ?_
                  rotate_left
                  · intro w hSw
                    (try dsimp only at hSw)
                    go_simp <;> with_reducible rfl
                  try simp only [Act.put, List.getElem_toArray, List.getElem_cons_zero, List.getElem_cons_succ, List.setIfInBounds_toArray, List.set_cons_zero, List.set_cons_succ]
                  refine wpTo_ready (rs := [11]) (by kernel_rfl) (by simp) ?_
                  refine AllTo.cons (o := _) rfl (fun K hK => ?_) ?_
                  · (try simp only [List.getElem_toArray, List.getElem_cons_zero, List.getElem_cons_succ])
                    go_simp
                    refine hK.out _ _ (fun _ => ?_) ?_
                    · first | assumption | go_keep
                    clear hK K
                    try simp only [Act.put, List.getElem_toArray, List.getElem_cons_zero, List.getElem_cons_succ, List.setIfInBounds_toArray, List.set_cons_zero, List.set_cons_succ]
                    refine wpTo_ready (rs := [12]) (by kernel_rfl) (by simp) ?_
                    refine AllTo.cons (o := _) rfl (fun K hK => ?_) ?_
                    · skip
                      refine step_append_lies _ (by rfl) _ _ 27 (by rfl) (R + 1) 69 i0 (.agg #[.int .i64 0, .int .i64 0, .int .i64 0, .int .i64 0, .int .i64 0, .int .i64 0, .int .i64 0]) 7 56 Tryz.underlying27 hi0 hz0 hz1 hz2 rfl (by omega) (.slice h.at' r.types.length h.ct) r.types.length (r.types.flatMap TypeV.cells) (by rfl) (sC.alloc _).lst.ot ⟨wC.heap.size, 0, none⟩ 1 1 (TypeV.cells ⟨7, 12, 10, 11, y1, y2, y3⟩) (by rfl) rfl (World.news_of_block (heap_alloc_new _ _)) (by simp [TypeV.cells, Value.oneCell']) (by omega) (by unfold maxLen; omega) (by omega) (by simp; omega) (wC.heap.size + 1) (by simp) ?_
                      intro g cap wD hown hgrow hat hltD
                      obtain ⟨cD, tD⟩ := (sC.alloc _).aftType hgrow
                      have HO := hide hown
                      have HGR := hide hgrow
                      have HAT := hide hat
                      clear hown hgrow hat
                      refine hK.out _ _ (fun hn => absurd (by decide) hn) ?_
                      clear hK K
                      try simp only [Act.put, List.getElem_toArray, List.getElem_cons_zero, List.getElem_cons_succ, List.setIfInBounds_toArray, List.set_cons_zero, List.set_cons_succ]
                      refine wpTo_ready (rs := [13]) (by kernel_rfl) (by simp) ?_
                      refine AllTo.cons (o := _) rfl (fun K hK => ?_) ?_
                      · (try simp only [List.getElem_toArray, List.getElem_cons_zero, List.getElem_cons_succ])
                        go_simp
                        refine hK.out _ _ (fun hn => absurd (by decide) hn) ?_
                        clear hK K
                        try simp only [Act.put, List.getElem_toArray, List.getElem_cons_zero, List.getElem_cons_succ, List.setIfInBounds_toArray, List.set_cons_zero, List.set_cons_succ]
                        refine wpTo_ready (rs := [14]) (by kernel_rfl) (by simp) ?_
                        refine AllTo.cons (o := _) rfl (fun K hK => ?_) ?_
                        · (try simp only [List.getElem_toArray, List.getElem_cons_zero, List.getElem_cons_succ])
                          go_simp
                          refine hK.out _ _ (fun hn => absurd (by decide) hn) ?_
                          clear hK K
                          try simp only [Act.put, List.getElem_toArray, List.getElem_cons_zero, List.getElem_cons_succ, List.setIfInBounds_toArray, List.set_cons_zero, List.set_cons_succ]
                          refine wpTo_done (by kernel_rfl) ?_ _
                          refine NoPanic.normal ?_
                          go_wp2_with fail
                          go_meet
                          case rel => exact rel12 (unhide HF) (unhide HT) (unhide HI) hl16 ((sC.alloc _).appType [⟨7, 12, 10, 11, y1, y2, y3⟩] (unhide HO) (unhide HGR) (unhide HAT) (Nat.le_of_eq (by simp))) (typ0 py1 qy1 my2 my3)
                        exact AllTo.nil
                      exact AllTo.nil
                    exact AllTo.nil
                  exact AllTo.nil
                exact AllTo.nil
              exact AllTo.nil
            exact AllTo.nil
          exact AllTo.nil
        exact AllTo.nil
      case rest =>
        clear HS HF HT HI b5
        obtain ⟨r, h, s, f, hl1, hok, hi, hp⟩ := hcut
        have HF := hide f
        have HO := hide hok
        have HI := hide hi
        have HL := hide hl1
        clear f hok hi hl1
        go_wp2_with fail
        refine (below_st 5 s (by omega) (by omega)).mono ?_
        rintro e w7 ⟨x7, rfl, p7, q7, s7, g7⟩
        have HS := hide s7
        clear s s7 g7
        go_wp2_with fail
        go_loopw [7] (fun vi wr => ∃ (i : Nat) (r : ReqV) (h : ReqH), (i : Int) ≤ x7 ∧ vi = .int .i64 i ∧ St w k a n c zs R r h wr ∧ Fst x1 x2 x3 x4 x5 x6 r ∧ r.types.length = 1 + i ∧ r.types.all TypeV.ok = true ∧ r.items = [] ∧ r.pairs.length ≤ 16) (fun vi _ => 5 - (intOf vi).toNat)
        case atStart => exact ⟨0, r, h, by omega, rfl, unhide HS, unhide HF, unhide HL, unhide HO, unhide HI, hp⟩
        case round =>
          clear HS HF HL HO HI hp
          obtain ⟨i, r, h, hix, rfl, s, f, hl1, hok, hi, hp⟩ := hrel
          have HF := hide f
          have HO := hide hok
          have HI := hide hi
          have HL := hide hl1
          have hle : r.types.length ≤ 8 := by omega
          clear f hok hi hl1
          by_cases hlt3 : (i : Int) < x7
          · obtain ⟨i0, hi0, hz0, hz1, hz2⟩ := info_parts Tryz.dinfoType
            have b7 : wr.cell? ⟨R, 7, none⟩ = some (.slice h.at' r.types.length h.ct) := (s.box 7 (by simp [reqCells])).1
            have hz := s.hz
            have hRk := s.hR
            go_wp2_with fail
            refine wp_region_noPanic ?_
            refine wp_region_to (S := fun w' => w'.cell? ⟨R, 7, none⟩ = some (.slice h.at' r.types.length h.ct)) (T := [23, 24, 25]) (by kernel_rfl) b7 (fun hHeld => ?_)
            refine wpTo_take (i := 0) (v := ?_) rfl (by kernel_rfl) (by kernel_rfl) (by kernel_rfl) (by kernel_rfl) (by kernel_rfl) (fun _ _ _ h => h) (Or.inl ⟨by rfl, ?_⟩) (by assumption) ?_
            rotate_left
            · intro w hSw
              (try dsimp only at hSw)
              go_simp <;> with_reducible rfl
            try simp only [Act.put, List.getElem_toArray, List.getElem_cons_zero, List.getElem_cons_succ, List.setIfInBounds_toArray, List.set_cons_zero, List.set_cons_succ]
            refine wpTo_take (i := 1) (v := ?_) rfl (by kernel_rfl) (by kernel_rfl) (by kernel_rfl) (by kernel_rfl) (by kernel_rfl) (fun _ _ _ h => h) (Or.inl ⟨by rfl, ?_⟩) (by assumption) ?_
            rotate_left
            · intro w hSw
              (try dsimp only at hSw)
              go_simp <;> with_reducible rfl
            try simp only [Act.put, List.getElem_toArray, List.getElem_cons_zero, List.getElem_cons_succ, List.setIfInBounds_toArray, List.set_cons_zero, List.set_cons_succ]
            refine wpTo_take (i := 2) (v := ?_) rfl (by kernel_rfl) (by kernel_rfl) (by kernel_rfl) (by kernel_rfl) (by kernel_rfl) (fun _ _ _ h => h) (Or.inl ⟨by rfl, ?_⟩) (by assumption) ?_
            rotate_left
            · intro w hSw
              (try dsimp only at hSw)
              go_simp <;> with_reducible rfl
            try simp only [Act.put, List.getElem_toArray, List.getElem_cons_zero, List.getElem_cons_succ, List.setIfInBounds_toArray, List.set_cons_zero, List.set_cons_succ]
            refine wpTo_take (i := 3) (v := ?_) rfl (by kernel_rfl) (by kernel_rfl) (by kernel_rfl) (by kernel_rfl) (by kernel_rfl) (fun _ _ _ h => h) (Or.inl ⟨by rfl, ?_⟩) (by assumption) ?_
            rotate_left
            · intro w hSw
              (try dsimp only at hSw)
              go_simp <;> with_reducible rfl
            try simp only [Act.put, List.getElem_toArray, List.getElem_cons_zero, List.getElem_cons_succ, List.setIfInBounds_toArray, List.set_cons_zero, List.set_cons_succ]
            rw [wrap_small (x := 10 + (i : Int)) (by omega) (by omega)]
            refine wpTo_take (i := 4) (v := ?_) rfl (by kernel_rfl) (by kernel_rfl) (by kernel_rfl) (by kernel_rfl) (by kernel_rfl) (fun _ _ _ h => h) (Or.inl ⟨by rfl, ?_⟩) (by assumption) ?_
            rotate_left
            · intro w hSw
              (try dsimp only at hSw)
              go_simp <;> with_reducible rfl
            try simp only [Act.put, List.getElem_toArray, List.getElem_cons_zero, List.getElem_cons_succ, List.setIfInBounds_toArray, List.set_cons_zero, List.set_cons_succ]
            refine wpTo_take (i := 7) (v := ?_) rfl (by kernel_rfl) (by kernel_rfl) (by kernel_rfl) (by kernel_rfl) (by kernel_rfl) (fun _ _ _ h => h) (Or.inl ⟨by rfl, ?_⟩) (by assumption) ?_
            rotate_left
            · intro w hSw
              (try dsimp only at hSw)
              go_simp <;> with_reducible rfl
            try simp only [Act.put, List.getElem_toArray, List.getElem_cons_zero, List.getElem_cons_succ, List.setIfInBounds_toArray, List.set_cons_zero, List.set_cons_succ]
            refine wpTo_take (i := 10) (v := ?_) rfl (by kernel_rfl) (by kernel_rfl) (by kernel_rfl) (by kernel_rfl) (by kernel_rfl) (fun _ _ _ h => h) (Or.inl ⟨by rfl, ?_⟩) (by assumption) ?_
            rotate_left
            · intro w hSw
              (try dsimp only at hSw)
              go_simp <;> with_reducible rfl
            try simp only [Act.put, List.getElem_toArray, List.getElem_cons_zero, List.getElem_cons_succ, List.setIfInBounds_toArray, List.set_cons_zero, List.set_cons_succ]
            refine wpTo_take (i := 13) (v := ?_) rfl (by kernel_rfl) (by kernel_rfl) (by kernel_rfl) (by kernel_rfl) (by kernel_rfl) (fun _ _ _ h => h) (Or.inl ⟨by rfl, ?_⟩) (by assumption) ?_
            rotate_left
            · intro w hSw
              (try dsimp only at hSw)
              go_simp <;> with_reducible rfl
            try simp only [Act.put, List.getElem_toArray, List.getElem_cons_zero, List.getElem_cons_succ, List.setIfInBounds_toArray, List.set_cons_zero, List.set_cons_succ]
            refine wpTo_take (i := 15) (v := ?_) rfl (by kernel_rfl) (by kernel_rfl) (by kernel_rfl) (by kernel_rfl) (by kernel_rfl) (fun _ _ _ h => h) (Or.inl ⟨by rfl, ?_⟩) (by assumption) ?_
            rotate_left
            · intro w hSw
              (try dsimp only at hSw)
              go_simp <;> with_reducible rfl
            try simp only [Act.put, List.getElem_toArray, List.getElem_cons_zero, List.getElem_cons_succ, List.setIfInBounds_toArray, List.set_cons_zero, List.set_cons_succ]
            refine wpTo_take (i := 18) (v := ?_) rfl (by kernel_rfl) (by kernel_rfl) (by kernel_rfl) (by kernel_rfl) (by kernel_rfl) (fun _ _ _ h => h) (Or.inl ⟨by rfl, ?_⟩) (by assumption) ?_
            rotate_left
            · intro w hSw
              (try dsimp only at hSw)
              go_simp <;> with_reducible rfl
            try simp only [Act.put, List.getElem_toArray, List.getElem_cons_zero, List.getElem_cons_succ, List.setIfInBounds_toArray, List.set_cons_zero, List.set_cons_succ]
            refine wpTo_ready (rs := [5]) (by kernel_rfl) (by simp) ?_
            refine AllTo.cons (o := _) rfl (fun K hK => ?_) ?_
            · (try simp only [List.getElem_toArray, List.getElem_cons_zero, List.getElem_cons_succ])
              go_simp
              refine (below_st (w := w) (a := a) (n := n) (c := c) (zs := zs) (R := R) (r := r) (h := h) 9 (by repeat' (first | refine St.alloc ?_ _ | refine St.drew ?_ | assumption)) (by omega) (by omega)).mono ?_
              rintro e wA ⟨y1, rfl, py1, qy1, sA, gA⟩
              have cA : wA.cell? ⟨R, 7, none⟩ = some (.slice h.at' r.types.length h.ct) := (sA.box 7 (by simp [reqCells])).1
              have rA := sA.hz
              have zA : wr.heap.size ≤ wA.heap.size := by (have h9 := gA.size; (try simp at h9); first | omega | exact h9)
              go_wp2_with fail
              refine hK.out _ _ (fun _ => ?_) ?_
              · first | assumption | go_keep
              clear hK K
              try simp only [Act.put, List.getElem_toArray, List.getElem_cons_zero, List.getElem_cons_succ, List.setIfInBounds_toArray, List.set_cons_zero, List.set_cons_succ]
              refine wpTo_take (i := 6) (v := ?_) rfl (by kernel_rfl) (by kernel_rfl) (by kernel_rfl) (by kernel_rfl) (by kernel_rfl) (fun _ _ _ h => h) (Or.inl ⟨by rfl, ?_⟩) (by assumption) ?_
              rotate_left
              · intro w hSw
                (try dsimp only at hSw)
                go_simp <;> with_reducible rfl
              try simp only [Act.put, List.getElem_toArray, List.getElem_cons_zero, List.getElem_cons_succ, List.setIfInBounds_toArray, List.set_cons_zero, List.set_cons_succ]
              rw [wrap_small (x := 4 + y1) (by omega) (by omega)]
              refine wpTo_ready (rs := [8]) (by kernel_rfl) (by simp) ?_
              refine AllTo.cons (o := _) rfl (fun K hK => ?_) ?_
              · (try simp only [List.getElem_toArray, List.getElem_cons_zero, List.getElem_cons_succ])
                go_simp
                refine (below_st (w := w) (a := a) (n := n) (c := c) (zs := zs) (R := R) (r := r) (h := h) 8 (by repeat' (first | refine St.alloc ?_ _ | refine St.drew ?_ | assumption)) (by omega) (by omega)).mono ?_
                rintro e wB ⟨y2, rfl, py2, qy2, sB, gB⟩
                have cB : wB.cell? ⟨R, 7, none⟩ = some (.slice h.at' r.types.length h.ct) := (sB.box 7 (by simp [reqCells])).1
                have rB := sB.hz
                have zB : wA.heap.size ≤ wB.heap.size := by (have h9 := gB.size; (try simp at h9); first | omega | exact h9)
                go_wp2_with fail
                refine hK.out _ _ (fun _ => ?_) ?_
                · first | assumption | go_keep
                clear hK K
                try simp only [Act.put, List.getElem_toArray, List.getElem_cons_zero, List.getElem_cons_succ, List.setIfInBounds_toArray, List.set_cons_zero, List.set_cons_succ]
                refine wpTo_take (i := 9) (v := ?_) rfl (by kernel_rfl) (by kernel_rfl) (by kernel_rfl) (by kernel_rfl) (by kernel_rfl) (fun _ _ _ h => h) (Or.inl ⟨by rfl, ?_⟩) (by assumption) ?_
                rotate_left
                · intro w hSw
                  (try dsimp only at hSw)
                  go_simp <;> with_reducible rfl
                try simp only [Act.put, List.getElem_toArray, List.getElem_cons_zero, List.getElem_cons_succ, List.setIfInBounds_toArray, List.set_cons_zero, List.set_cons_succ]
                rw [wrap_small (x := 3 + y2) (by omega) (by omega)]
                refine wpTo_ready (rs := [11]) (by kernel_rfl) (by simp) ?_
                refine AllTo.cons (o := _) rfl (fun K hK => ?_) ?_
                · (try simp only [List.getElem_toArray, List.getElem_cons_zero, List.getElem_cons_succ])
                  go_simp
                  refine (below_st (w := w) (a := a) (n := n) (c := c) (zs := zs) (R := R) (r := r) (h := h) 9 (by repeat' (first | refine St.alloc ?_ _ | refine St.drew ?_ | assumption)) (by omega) (by omega)).mono ?_
                  rintro e wC ⟨y3, rfl, py3, qy3, sC, gC⟩
                  have cC : wC.cell? ⟨R, 7, none⟩ = some (.slice h.at' r.types.length h.ct) := (sC.box 7 (by simp [reqCells])).1
                  have rC := sC.hz
                  have zC : wB.heap.size ≤ wC.heap.size := by (have h9 := gC.size; (try simp at h9); first | omega | exact h9)
                  go_wp2_with fail
                  refine hK.out _ _ (fun _ => ?_) ?_
                  · first | assumption | go_keep
                  clear hK K
                  try simp only [Act.put, List.getElem_toArray, List.getElem_cons_zero, List.getElem_cons_succ, List.setIfInBounds_toArray, List.set_cons_zero, List.set_cons_succ]
                  refine wpTo_take (i := 12) (v := ?_) rfl (by kernel_rfl) (by kernel_rfl) (by kernel_rfl) (by kernel_rfl) (by kernel_rfl) (fun _ _ _ h => h) (Or.inl ⟨by rfl, ?_⟩) (by assumption) ?_
                  rotate_left
                  · intro w hSw
                    (try dsimp only at hSw)
                    go_simp <;> with_reducible rfl
                  try simp only [Act.put, List.getElem_toArray, List.getElem_cons_zero, List.getElem_cons_succ, List.setIfInBounds_toArray, List.set_cons_zero, List.set_cons_succ]
                  rw [wrap_small (x := 3 + y3) (by omega) (by omega)]
                  refine wpTo_ready (rs := [14]) (by kernel_rfl) (by simp) ?_
                  refine AllTo.cons (o := _) rfl (fun K hK => ?_) ?_
                  · (try simp only [List.getElem_toArray, List.getElem_cons_zero, List.getElem_cons_succ])
                    go_simp
                    refine (below_st (w := w) (a := a) (n := n) (c := c) (zs := zs) (R := R) (r := r) (h := h) 5 (by repeat' (first | refine St.alloc ?_ _ | refine St.drew ?_ | assumption)) (by omega) (by omega)).mono ?_
                    rintro e wD ⟨y4, rfl, py4, qy4, sD, gD⟩
                    have cD : wD.cell? ⟨R, 7, none⟩ = some (.slice h.at' r.types.length h.ct) := (sD.box 7 (by simp [reqCells])).1
                    have rD := sD.hz
                    have zD : wC.heap.size ≤ wD.heap.size := by (have h9 := gD.size; (try simp at h9); first | omega | exact h9)
                    go_wp2_with fail
                    refine hK.out _ _ (fun _ => ?_) ?_
                    · first | assumption | go_keep
                    clear hK K
                    try simp only [Act.put, List.getElem_toArray, List.getElem_cons_zero, List.getElem_cons_succ, List.setIfInBounds_toArray, List.set_cons_zero, List.set_cons_succ]
                    refine wpTo_ready (rs := [16]) (by kernel_rfl) (by simp) ?_
                    refine AllTo.cons (o := _) rfl (fun K hK => ?_) ?_
                    · (try simp only [List.getElem_toArray, List.getElem_cons_zero, List.getElem_cons_succ])
                      go_simp
                      refine (below_st (w := w) (a := a) (n := n) (c := c) (zs := zs) (R := R) (r := r) (h := h) 90 (by repeat' (first | refine St.alloc ?_ _ | refine St.drew ?_ | assumption)) (by omega) (by omega)).mono ?_
                      rintro e wE ⟨y5, rfl, py5, qy5, sE, gE⟩
                      have cE : wE.cell? ⟨R, 7, none⟩ = some (.slice h.at' r.types.length h.ct) := (sE.box 7 (by simp [reqCells])).1
                      have rE := sE.hz
                      have zE : wD.heap.size ≤ wE.heap.size := by (have h9 := gE.size; (try simp at h9); first | omega | exact h9)
                      go_wp2_with fail
                      refine hK.out _ _ (fun _ => ?_) ?_
                      · first | assumption | go_keep
                      clear hK K
                      try simp only [Act.put, List.getElem_toArray, List.getElem_cons_zero, List.getElem_cons_succ, List.setIfInBounds_toArray, List.set_cons_zero, List.set_cons_succ]
                      refine wpTo_take (i := 17) (v := ?_) rfl (by kernel_rfl) (by kernel_rfl) (by kernel_rfl) (by kernel_rfl) (by kernel_rfl) (fun _ _ _ h => h) (Or.inl ⟨by rfl, ?_⟩) (by assumption) ?_
                      rotate_left
                      · intro w hSw
                        (try dsimp only at hSw)
                        go_simp <;> with_reducible rfl
                      try simp only [Act.put, List.getElem_toArray, List.getElem_cons_zero, List.getElem_cons_succ, List.setIfInBounds_toArray, List.set_cons_zero, List.set_cons_succ]
                      rw [wrap_small (x := 20 + y5) (by omega) (by omega)]
                      refine wpTo_ready (rs := [19]) (by kernel_rfl) (by simp) ?_
                      refine AllTo.cons (o := _) rfl (fun K hK => ?_) ?_
                      · (try simp only [List.getElem_toArray, List.getElem_cons_zero, List.getElem_cons_succ])
                        go_simp
                        refine (below_st (w := w) (a := a) (n := n) (c := c) (zs := zs) (R := R) (r := r) (h := h) 20 (by repeat' (first | refine St.alloc ?_ _ | refine St.drew ?_ | assumption)) (by omega) (by omega)).mono ?_
                        rintro e wF ⟨y6, rfl, py6, qy6, sF, gF⟩
                        have cF : wF.cell? ⟨R, 7, none⟩ = some (.slice h.at' r.types.length h.ct) := (sF.box 7 (by simp [reqCells])).1
                        have rF := sF.hz
                        have zF : wE.heap.size ≤ wF.heap.size := by (have h9 := gF.size; (try simp at h9); first | omega | exact h9)
                        go_wp2_with fail
                        refine hK.out _ _ (fun _ => ?_) ?_
                        · first | assumption | go_keep
                        clear hK K
                        try simp only [Act.put, List.getElem_toArray, List.getElem_cons_zero, List.getElem_cons_succ, List.setIfInBounds_toArray, List.set_cons_zero, List.set_cons_succ]
                        refine wpTo_take (i := 20) (v := ?_) rfl (by kernel_rfl) (by kernel_rfl) (by kernel_rfl) (by kernel_rfl) (by kernel_rfl) (fun _ _ _ h => h) (Or.inl ⟨by rfl, ?_⟩) (by assumption) ?_
                        rotate_left
                        · intro w hSw
                          (try dsimp only at hSw)
                          go_simp <;> with_reducible rfl
                        try simp only [Act.put, List.getElem_toArray, List.getElem_cons_zero, List.getElem_cons_succ, List.setIfInBounds_toArray, List.set_cons_zero, List.set_cons_succ]
                        rw [wrap_small (x := 1 + y6) (by omega) (by omega)]
                        refine wpTo_take (i := 21) (v := ?_) rfl (by kernel_rfl) (by kernel_rfl) (by kernel_rfl) (by kernel_rfl) (by kernel_rfl) (fun _ _ _ h => h) (Or.inl ⟨by rfl, ?_⟩) (by assumption) ?_
                        rotate_left
                        · intro w hSw
                          (try dsimp only at hSw)
                          go_simp <;> with_reducible rfl
                        try simp only [Act.put, List.getElem_toArray, List.getElem_cons_zero, List.getElem_cons_succ, List.setIfInBounds_toArray, List.set_cons_zero, List.set_cons_succ]
                        refine wpTo_ready (rs := [22]) (by kernel_rfl) (by simp) ?_
                        refine AllTo.cons (o := _) rfl (fun K hK => ?_) ?_
                        · (try simp only [List.getElem_toArray, List.getElem_cons_zero, List.getElem_cons_succ])
                          go_simp
                          refine hK.out _ _ (fun _ => ?_) ?_
                          · first | assumption | go_keep
                          clear hK K
                          try simp only [Act.put, List.getElem_toArray, List.getElem_cons_zero, List.getElem_cons_succ, List.setIfInBounds_toArray, List.set_cons_zero, List.set_cons_succ]
                          refine wpTo_ready (rs := [23]) (by kernel_rfl) (by simp) ?_
                          refine AllTo.cons (o := _) rfl (fun K hK => ?_) ?_
                          · skip
                            refine step_append_lies _ (by rfl) _ _ 27 (by rfl) (R + 1) 69 i0 (.agg #[.int .i64 0, .int .i64 0, .int .i64 0, .int .i64 0, .int .i64 0, .int .i64 0, .int .i64 0]) 7 56 Tryz.underlying27 hi0 hz0 hz1 hz2 rfl (by omega) (.slice h.at' r.types.length h.ct) r.types.length (r.types.flatMap TypeV.cells) (by rfl) (sF.alloc _).lst.ot ⟨wF.heap.size, 0, none⟩ 1 1 (TypeV.cells ⟨10 + (i : Int), 4 + y1, 3 + y2, 3 + y3, y4, 20 + y5, 1 + y6⟩) (by rfl) rfl (World.news_of_block (heap_alloc_new _ _)) (by simp [TypeV.cells, Value.oneCell']) (by omega) (by unfold maxLen; omega) (by omega) (by simp; omega) (wF.heap.size + 1) (by simp) ?_
                            intro g cap wG hown hgrow hat hltG
                            obtain ⟨cD, tD⟩ := (sF.alloc _).aftType hgrow
                            have HOW := hide hown
                            have HGR := hide hgrow
                            have HAT := hide hat
                            clear hown hgrow hat
                            refine hK.out _ _ (fun hn => absurd (by decide) hn) ?_
                            clear hK K
                            try simp only [Act.put, List.getElem_toArray, List.getElem_cons_zero, List.getElem_cons_succ, List.setIfInBounds_toArray, List.set_cons_zero, List.set_cons_succ]
                            refine wpTo_ready (rs := [24]) (by kernel_rfl) (by simp) ?_
                            refine AllTo.cons (o := _) rfl (fun K hK => ?_) ?_
                            · (try simp only [List.getElem_toArray, List.getElem_cons_zero, List.getElem_cons_succ])
                              go_simp
                              refine hK.out _ _ (fun hn => absurd (by decide) hn) ?_
                              clear hK K
                              try simp only [Act.put, List.getElem_toArray, List.getElem_cons_zero, List.getElem_cons_succ, List.setIfInBounds_toArray, List.set_cons_zero, List.set_cons_succ]
                              refine wpTo_ready (rs := [25]) (by kernel_rfl) (by simp) ?_
                              refine AllTo.cons (o := _) rfl (fun K hK => ?_) ?_
                              · (try simp only [List.getElem_toArray, List.getElem_cons_zero, List.getElem_cons_succ])
                                go_simp
                                refine hK.out _ _ (fun hn => absurd (by decide) hn) ?_
                                clear hK K
                                try simp only [Act.put, List.getElem_toArray, List.getElem_cons_zero, List.getElem_cons_succ, List.setIfInBounds_toArray, List.set_cons_zero, List.set_cons_succ]
                                refine wpTo_done (by kernel_rfl) ?_ _
                                refine NoPanic.normal ?_
                                go_wp2_with fail
                                go_roundw
                                case rel => exact rel17 (unhide HF) (unhide HL) (unhide HO) (unhide HI) hp hlt3 ((sF.alloc _).appType [⟨10 + (i : Int), 4 + y1, 3 + y2, 3 + y3, y4, 20 + y5, 1 + y6⟩] (unhide HOW) (unhide HGR) (unhide HAT) (Nat.le_of_eq (by simp))) (typ1 (by omega) (by omega) py1 qy1 py2 qy2 py3 qy3 py4 qy4 py5 qy5 py6 qy6)
                                case measure => simp [intOf]; omega
                              exact AllTo.nil
                            exact AllTo.nil
                          exact AllTo.nil
                        exact AllTo.nil
                      exact AllTo.nil
                    exact AllTo.nil
                  exact AllTo.nil
                exact AllTo.nil
              exact AllTo.nil
            exact AllTo.nil
          · have HS := hide s
            clear s
            go_wp2_with fail
            refine (below_st 6 (by exact unhide HS) (by omega) (by omega)).mono ?_
            rintro e w8 ⟨x8, rfl, p8, q8, s8, g8⟩
            have HS8 := hide s8
            clear HS s8 g8
            go_wp2_with fail
            go_loopw [9, 10] (fun vu vi wr => ∃ (i : Nat) (r : ReqV) (h : ReqH), (i : Int) ≤ x8 ∧ vi = .int .i64 i ∧ vu = .int .i64 (cntSum r.items) ∧ St w k a n c zs R r h wr ∧ Fst x1 x2 x3 x4 x5 x6 r ∧ r.types.length ≤ 5 ∧ 1 ≤ r.types.length ∧ r.types.all TypeV.ok = true ∧ r.items.length ≤ i ∧ r.items.all ItemV.ok = true ∧ cntSum r.items ≤ 12 ∧ r.pairs.length ≤ 16) (fun _ vi _ => 6 - (intOf vi).toNat)
            case atStart => exact ⟨0, r, h, by omega, rfl, by rw [unhide HI]; rfl, unhide HS8, unhide HF, by have := unhide HL; omega, by have := unhide HL; omega, unhide HO, by rw [unhide HI]; exact Nat.zero_le _, by rw [unhide HI]; rfl, by rw [unhide HI]; decide, hp⟩
            case round =>
              clear HS8 HF HL HO HI hp hle
              obtain ⟨j, r, h, hjx, rfl, rfl, s, f, ht1, ht2, hto, hil, hio, hcs, hp⟩ := hrel
              by_cases hlt4 : (j : Int) < x8
              · have hcl := f.cl
                have b5 : wr.cell? ⟨R, 5, none⟩ = some (.int .i64 (1 + x6)) := by rw [← hcl]; exact (s.box 5 (by simp [reqCells])).1
                have hz := s.hz
                have hRk := s.hR
                have HF := hide f
                have HTO := hide hto
                have HIO := hide hio
                have HCL := hide hcl
                clear f hto hio hcl
                go_upto_region 23 with fail
                go_cut [11] (fun v wc => ∃ (g : Nat) (q : ItemV), v = .pointer (some ⟨g, 0, none⟩) ∧ Itm w k a n c zs R r h g q wc ∧ q.ok = true ∧ q.cnt ≤ 4)
                case first =>
                  have hcl := unhide HCL
                  clear HF HTO HIO HCL HB HC m2 m3 m4 m5
                  refine wp_region_noPanic ?_
                  refine wp_region_to (S := fun w' => w'.cell? ⟨R, 5, none⟩ = some (.int .i64 (1 + x6))) (T := [23]) (by kernel_rfl) b5 (fun hHeld => ?_)
                  refine wpTo_take (i := 0) (v := ?_) rfl (by kernel_rfl) (by kernel_rfl) (by kernel_rfl) (by kernel_rfl) (by kernel_rfl) (fun _ _ _ h => h) (Or.inl ⟨by rfl, ?_⟩) (by assumption) ?_
                  rotate_left
                  · intro w hSw
                    (try dsimp only at hSw)
                    go_simp <;> with_reducible rfl
                  try simp only [Act.put, List.getElem_toArray, List.getElem_cons_zero, List.getElem_cons_succ, List.setIfInBounds_toArray, List.set_cons_zero, List.set_cons_succ]
                  refine wpTo_take (i := 1) (v := ?_) rfl (by kernel_rfl) (by kernel_rfl) (by kernel_rfl) (by kernel_rfl) (by kernel_rfl) (fun _ _ _ h => h) (Or.inl ⟨by rfl, ?_⟩) (by assumption) ?_
                  rotate_left
                  · intro w hSw
                    (try dsimp only at hSw)
                    go_simp <;> with_reducible rfl
                  try simp only [Act.put, List.getElem_toArray, List.getElem_cons_zero, List.getElem_cons_succ, List.setIfInBounds_toArray, List.set_cons_zero, List.set_cons_succ]
                  rw [wrap_small (x := 3 * (j : Int)) (by omega) (by omega)]
                  refine wpTo_take (i := 2) (v := ?_) rfl (by kernel_rfl) (by kernel_rfl) (by kernel_rfl) (by kernel_rfl) (by kernel_rfl) (fun _ _ _ h => h) (Or.inl ⟨by rfl, ?_⟩) (by assumption) ?_
                  rotate_left
                  · intro w hSw
                    (try dsimp only at hSw)
                    go_simp <;> with_reducible rfl
                  try simp only [Act.put, List.getElem_toArray, List.getElem_cons_zero, List.getElem_cons_succ, List.setIfInBounds_toArray, List.set_cons_zero, List.set_cons_succ]
                  refine wpTo_take (i := 5) (v := ?_) rfl (by kernel_rfl) (by kernel_rfl) (by kernel_rfl) (by kernel_rfl) (by kernel_rfl) (fun _ _ _ h => h) (Or.inl ⟨by rfl, ?_⟩) (by assumption) ?_
                  rotate_left
                  · intro w hSw
                    (try dsimp only at hSw)
                    go_simp <;> with_reducible rfl
                  try simp only [Act.put, List.getElem_toArray, List.getElem_cons_zero, List.getElem_cons_succ, List.setIfInBounds_toArray, List.set_cons_zero, List.set_cons_succ]
                  refine wpTo_take (i := 8) (v := ?_) rfl (by kernel_rfl) (by kernel_rfl) (by kernel_rfl) (by kernel_rfl) (by kernel_rfl) (fun _ _ _ h => h) (Or.inl ⟨by rfl, ?_⟩) (by assumption) ?_
                  rotate_left
                  · intro w hSw
                    (try dsimp only at hSw)
                    go_simp <;> with_reducible rfl
                  try simp only [Act.put, List.getElem_toArray, List.getElem_cons_zero, List.getElem_cons_succ, List.setIfInBounds_toArray, List.set_cons_zero, List.set_cons_succ]
                  refine wpTo_take (i := 11) (v := ?_) rfl (by kernel_rfl) (by kernel_rfl) (by kernel_rfl) (by kernel_rfl) (by kernel_rfl) (fun _ _ _ h => h) (Or.inl ⟨by rfl, ?_⟩) (by assumption) ?_
                  rotate_left
                  · intro w hSw
                    (try dsimp only at hSw)
                    go_simp <;> with_reducible rfl
                  try simp only [Act.put, List.getElem_toArray, List.getElem_cons_zero, List.getElem_cons_succ, List.setIfInBounds_toArray, List.set_cons_zero, List.set_cons_succ]
                  refine wpTo_take (i := 14) (v := ?_) rfl (by kernel_rfl) (by kernel_rfl) (by kernel_rfl) (by kernel_rfl) (by kernel_rfl) (fun _ _ _ h => h) (Or.inl ⟨by rfl, ?_⟩) (by assumption) ?_
                  rotate_left
                  · intro w hSw
                    (try dsimp only at hSw)
                    go_simp <;> with_reducible rfl
                  try simp only [Act.put, List.getElem_toArray, List.getElem_cons_zero, List.getElem_cons_succ, List.setIfInBounds_toArray, List.set_cons_zero, List.set_cons_succ]
                  refine wpTo_take (i := 15) (v := ?_) rfl (by kernel_rfl) (by kernel_rfl) (by kernel_rfl) (by kernel_rfl) (by kernel_rfl) (fun _ _ _ h => h) (Or.inl ⟨by rfl, ?_⟩) (by assumption) ?_
                  rotate_left
                  · intro w hSw
                    (try dsimp only at hSw)
                    go_simp <;> with_reducible rfl
                  try simp only [Act.put, List.getElem_toArray, List.getElem_cons_zero, List.getElem_cons_succ, List.setIfInBounds_toArray, List.set_cons_zero, List.set_cons_succ]
                  refine wpTo_take (i := 16) (v := ?_) rfl (by kernel_rfl) (by kernel_rfl) (by kernel_rfl) (by kernel_rfl) (by kernel_rfl) (fun _ _ _ h => h) (Or.inl ⟨by rfl, ?_⟩) (by assumption) ?_
                  rotate_left
                  · intro w hSw
                    (try dsimp only at hSw)
                    go_simp <;> with_reducible rfl
                  try simp only [Act.put, List.getElem_toArray, List.getElem_cons_zero, List.getElem_cons_succ, List.setIfInBounds_toArray, List.set_cons_zero, List.set_cons_succ]
                  refine wpTo_take (i := 18) (v := ?_) rfl (by kernel_rfl) (by kernel_rfl) (by kernel_rfl) (by kernel_rfl) (by kernel_rfl) (fun _ _ _ h => h) (Or.inl ⟨by rfl, ?_⟩) (by assumption) ?_
                  rotate_left
                  · intro w hSw
                    (try dsimp only at hSw)
                    go_simp <;> with_reducible rfl
                  try simp only [Act.put, List.getElem_toArray, List.getElem_cons_zero, List.getElem_cons_succ, List.setIfInBounds_toArray, List.set_cons_zero, List.set_cons_succ]
                  refine wpTo_ready (rs := [3, 22]) (by kernel_rfl) (by simp) ?_
                  refine AllTo.cons (o := _) rfl (fun K hK => ?_) ?_
                  · (try simp only [List.getElem_toArray, List.getElem_cons_zero, List.getElem_cons_succ])
                    go_simp
                    refine (below_st (w := w) (a := a) (n := n) (c := c) (zs := zs) (R := R) (r := r) (h := h) 10 (by repeat' (first | refine St.alloc ?_ _ | refine St.drew ?_ | assumption)) (by omega) (by omega)).mono ?_
                    rintro e wA ⟨y1, rfl, py1, qy1, sA, gA⟩
                    have cA : wA.cell? ⟨R, 5, none⟩ = some (.int .i64 (1 + x6)) := by rw [← hcl]; exact (sA.box 5 (by simp [reqCells])).1
                    have rA := sA.hz
                    have zA : wr.heap.size ≤ wA.heap.size := by (have h9 := gA.size; (try simp at h9); first | omega | exact h9)
                    go_wp2_with fail
                    refine hK.out _ _ (fun _ => ?_) ?_
                    · first | assumption | go_keep
                    clear hK K
                    try simp only [Act.put, List.getElem_toArray, List.getElem_cons_zero, List.getElem_cons_succ, List.setIfInBounds_toArray, List.set_cons_zero, List.set_cons_succ]
                    refine wpTo_take (i := 4) (v := ?_) rfl (by kernel_rfl) (by kernel_rfl) (by kernel_rfl) (by kernel_rfl) (by kernel_rfl) (fun _ _ _ h => h) (Or.inl ⟨by rfl, ?_⟩) (by assumption) ?_
                    rotate_left
                    · intro w hSw
                      (try dsimp only at hSw)
                      go_simp <;> with_reducible rfl
                    try simp only [Act.put, List.getElem_toArray, List.getElem_cons_zero, List.getElem_cons_succ, List.setIfInBounds_toArray, List.set_cons_zero, List.set_cons_succ]
                    rw [wrap_small (x := 1 + y1) (by omega) (by omega)]
                    refine wpTo_ready (rs := [6, 22]) (by kernel_rfl) (by simp) ?_
                    refine AllTo.cons (o := _) rfl (fun K hK => ?_) ?_
                    · (try simp only [List.getElem_toArray, List.getElem_cons_zero, List.getElem_cons_succ])
                      go_simp
                      refine (below_st (w := w) (a := a) (n := n) (c := c) (zs := zs) (R := R) (r := r) (h := h) 10 (by repeat' (first | refine St.alloc ?_ _ | refine St.drew ?_ | assumption)) (by omega) (by omega)).mono ?_
                      rintro e wB ⟨y2, rfl, py2, qy2, sB, gB⟩
                      have cB : wB.cell? ⟨R, 5, none⟩ = some (.int .i64 (1 + x6)) := by rw [← hcl]; exact (sB.box 5 (by simp [reqCells])).1
                      have rB := sB.hz
                      have zB : wA.heap.size ≤ wB.heap.size := by (have h9 := gB.size; (try simp at h9); first | omega | exact h9)
                      go_wp2_with fail
                      refine hK.out _ _ (fun _ => ?_) ?_
                      · first | assumption | go_keep
                      clear hK K
                      try simp only [Act.put, List.getElem_toArray, List.getElem_cons_zero, List.getElem_cons_succ, List.setIfInBounds_toArray, List.set_cons_zero, List.set_cons_succ]
                      refine wpTo_take (i := 7) (v := ?_) rfl (by kernel_rfl) (by kernel_rfl) (by kernel_rfl) (by kernel_rfl) (by kernel_rfl) (fun _ _ _ h => h) (Or.inl ⟨by rfl, ?_⟩) (by assumption) ?_
                      rotate_left
                      · intro w hSw
                        (try dsimp only at hSw)
                        go_simp <;> with_reducible rfl
                      try simp only [Act.put, List.getElem_toArray, List.getElem_cons_zero, List.getElem_cons_succ, List.setIfInBounds_toArray, List.set_cons_zero, List.set_cons_succ]
                      rw [wrap_small (x := 1 + y2) (by omega) (by omega)]
                      refine wpTo_ready (rs := [9, 22]) (by kernel_rfl) (by simp) ?_
                      refine AllTo.cons (o := _) rfl (fun K hK => ?_) ?_
                      · (try simp only [List.getElem_toArray, List.getElem_cons_zero, List.getElem_cons_succ])
                        go_simp
                        refine (below_st (w := w) (a := a) (n := n) (c := c) (zs := zs) (R := R) (r := r) (h := h) 10 (by repeat' (first | refine St.alloc ?_ _ | refine St.drew ?_ | assumption)) (by omega) (by omega)).mono ?_
                        rintro e wC ⟨y3, rfl, py3, qy3, sC, gC⟩
                        have cC : wC.cell? ⟨R, 5, none⟩ = some (.int .i64 (1 + x6)) := by rw [← hcl]; exact (sC.box 5 (by simp [reqCells])).1
                        have rC := sC.hz
                        have zC : wB.heap.size ≤ wC.heap.size := by (have h9 := gC.size; (try simp at h9); first | omega | exact h9)
                        go_wp2_with fail
                        refine hK.out _ _ (fun _ => ?_) ?_
                        · first | assumption | go_keep
                        clear hK K
                        try simp only [Act.put, List.getElem_toArray, List.getElem_cons_zero, List.getElem_cons_succ, List.setIfInBounds_toArray, List.set_cons_zero, List.set_cons_succ]
                        refine wpTo_take (i := 10) (v := ?_) rfl (by kernel_rfl) (by kernel_rfl) (by kernel_rfl) (by kernel_rfl) (by kernel_rfl) (fun _ _ _ h => h) (Or.inl ⟨by rfl, ?_⟩) (by assumption) ?_
                        rotate_left
                        · intro w hSw
                          (try dsimp only at hSw)
                          go_simp <;> with_reducible rfl
                        try simp only [Act.put, List.getElem_toArray, List.getElem_cons_zero, List.getElem_cons_succ, List.setIfInBounds_toArray, List.set_cons_zero, List.set_cons_succ]
                        rw [wrap_small (x := 1 + y3) (by omega) (by omega)]
                        refine wpTo_ready (rs := [12, 22]) (by kernel_rfl) (by simp) ?_
                        refine AllTo.cons (o := _) rfl (fun K hK => ?_) ?_
                        · (try simp only [List.getElem_toArray, List.getElem_cons_zero, List.getElem_cons_succ])
                          go_simp
                          refine (below_st (w := w) (a := a) (n := n) (c := c) (zs := zs) (R := R) (r := r) (h := h) 60 (by repeat' (first | refine St.alloc ?_ _ | refine St.drew ?_ | assumption)) (by omega) (by omega)).mono ?_
                          rintro e wD ⟨y4, rfl, py4, qy4, sD, gD⟩
                          have cD : wD.cell? ⟨R, 5, none⟩ = some (.int .i64 (1 + x6)) := by rw [← hcl]; exact (sD.box 5 (by simp [reqCells])).1
                          have rD := sD.hz
                          have zD : wC.heap.size ≤ wD.heap.size := by (have h9 := gD.size; (try simp at h9); first | omega | exact h9)
                          go_wp2_with fail
                          refine hK.out _ _ (fun _ => ?_) ?_
                          · first | assumption | go_keep
                          clear hK K
                          try simp only [Act.put, List.getElem_toArray, List.getElem_cons_zero, List.getElem_cons_succ, List.setIfInBounds_toArray, List.set_cons_zero, List.set_cons_succ]
                          refine wpTo_take (i := 13) (v := ?_) rfl (by kernel_rfl) (by kernel_rfl) (by kernel_rfl) (by kernel_rfl) (by kernel_rfl) (fun _ _ _ h => h) (Or.inl ⟨by rfl, ?_⟩) (by assumption) ?_
                          rotate_left
                          · intro w hSw
                            (try dsimp only at hSw)
                            go_simp <;> with_reducible rfl
                          try simp only [Act.put, List.getElem_toArray, List.getElem_cons_zero, List.getElem_cons_succ, List.setIfInBounds_toArray, List.set_cons_zero, List.set_cons_succ]
                          rw [wrap_small (x := 1 + y4) (by omega) (by omega)]
                          refine wpTo_ready (rs := [17, 22]) (by kernel_rfl) (by simp) ?_
                          refine AllTo.cons (o := _) rfl (fun K hK => ?_) ?_
                          · (try simp only [List.getElem_toArray, List.getElem_cons_zero, List.getElem_cons_succ])
                            go_simp
                            refine (below_st (w := w) (a := a) (n := n) (c := c) (zs := zs) (R := R) (r := r) (h := h) (1 + x6) (by repeat' (first | refine St.alloc ?_ _ | refine St.drew ?_ | assumption)) (by omega) (by omega)).mono ?_
                            rintro e wE ⟨y5, rfl, py5, qy5, sE, gE⟩
                            have cE : wE.cell? ⟨R, 5, none⟩ = some (.int .i64 (1 + x6)) := by rw [← hcl]; exact (sE.box 5 (by simp [reqCells])).1
                            have rE := sE.hz
                            have zE : wD.heap.size ≤ wE.heap.size := by (have h9 := gE.size; (try simp at h9); first | omega | exact h9)
                            go_wp2_with fail
                            refine hK.out _ _ (fun _ => ?_) ?_
                            · first | assumption | go_keep
                            clear hK K
                            try simp only [Act.put, List.getElem_toArray, List.getElem_cons_zero, List.getElem_cons_succ, List.setIfInBounds_toArray, List.set_cons_zero, List.set_cons_succ]
                            refine wpTo_ready (rs := [19, 22]) (by kernel_rfl) (by simp) ?_
                            refine AllTo.cons (o := _) rfl (fun K hK => ?_) ?_
                            · (try simp only [List.getElem_toArray, List.getElem_cons_zero, List.getElem_cons_succ])
                              go_simp
                              refine (below_st (w := w) (a := a) (n := n) (c := c) (zs := zs) (R := R) (r := r) (h := h) 4 (by repeat' (first | refine St.alloc ?_ _ | refine St.drew ?_ | assumption)) (by omega) (by omega)).mono ?_
                              rintro e wF ⟨y6, rfl, py6, qy6, sF, gF⟩
                              have cF : wF.cell? ⟨R, 5, none⟩ = some (.int .i64 (1 + x6)) := by rw [← hcl]; exact (sF.box 5 (by simp [reqCells])).1
                              have rF := sF.hz
                              have zF : wE.heap.size ≤ wF.heap.size := by (have h9 := gF.size; (try simp at h9); first | omega | exact h9)
                              go_wp2_with fail
                              refine hK.out _ _ (fun _ => ?_) ?_
                              · first | assumption | go_keep
                              clear hK K
                              try simp only [Act.put, List.getElem_toArray, List.getElem_cons_zero, List.getElem_cons_succ, List.setIfInBounds_toArray, List.set_cons_zero, List.set_cons_succ]
                              refine wpTo_take (i := 20) (v := ?_) rfl (by kernel_rfl) (by kernel_rfl) (by kernel_rfl) (by kernel_rfl) (by kernel_rfl) (fun _ _ _ h => h) (Or.inl ⟨by rfl, ?_⟩) (by assumption) ?_
                              rotate_left
                              · intro w hSw
                                (try dsimp only at hSw)
                                go_simp <;> with_reducible rfl
                              try simp only [Act.put, List.getElem_toArray, List.getElem_cons_zero, List.getElem_cons_succ, List.setIfInBounds_toArray, List.set_cons_zero, List.set_cons_succ]
                              rw [wrap_small (x := 1 + y6) (by omega) (by omega)]
                              refine wpTo_take (i := 21) (v := ?_) rfl (by kernel_rfl) (by kernel_rfl) (by kernel_rfl) (by kernel_rfl) (by kernel_rfl) (fun _ _ _ h => h) (Or.inl ⟨by rfl, ?_⟩) (by assumption) ?_
                              rotate_left
                              · intro w hSw
                                (try dsimp only at hSw)
                                go_simp <;> with_reducible rfl
                              try simp only [Act.put, List.getElem_toArray, List.getElem_cons_zero, List.getElem_cons_succ, List.setIfInBounds_toArray, List.set_cons_zero, List.set_cons_succ]
                              refine wpTo_ready (rs := [22]) (by kernel_rfl) (by simp) ?_
                              refine AllTo.cons (o := _) rfl (fun K hK => ?_) ?_
                              · (try simp only [List.getElem_toArray, List.getElem_cons_zero, List.getElem_cons_succ])
                                go_simp
                                have bz0 := Blk.allocAt (w := wF) (g := wF.heap.size) (t := 43) [.int .i64 0, .int .i64 0, .int .i64 0, .int .i64 0, .int .i64 0, .int .i64 0, .int .i64 0] rfl
                                have gR : R < wF.heap.size := by omega
                                have hfar : Far h (wF.heap.size) := St.farNew (by assumption : St w k a n c zs R r h wF) (Nat.le_refl _)
                                refine hK.out _ _ (fun _ => ?_) ?_
                                · first | assumption | go_keep
                                clear hK K
                                try simp only [Act.put, List.getElem_toArray, List.getElem_cons_zero, List.getElem_cons_succ, List.setIfInBounds_toArray, List.set_cons_zero, List.set_cons_succ]
                                refine wpTo_ready (rs := [23]) (by kernel_rfl) (by simp) ?_
                                refine AllTo.cons (o := _) rfl (fun K hK => ?_) ?_
                                · (try simp only [List.getElem_toArray, List.getElem_cons_zero, List.getElem_cons_succ])
                                  go_simp
                                  refine hK.out _ _ (fun hn => absurd (by decide) hn) ?_
                                  clear hK K
                                  try simp only [Act.put, List.getElem_toArray, List.getElem_cons_zero, List.getElem_cons_succ, List.setIfInBounds_toArray, List.set_cons_zero, List.set_cons_succ]
                                  refine wpTo_done (by kernel_rfl) ?_ _
                                  refine NoPanic.normal ?_
                                  go_wp2_with fail
                                  go_meet
                                  case rel => exact ⟨wF.heap.size, (⟨3 * (j : Int), 1 + y1, 1 + y2, 1 + y3, 1 + y4, y5, 1 + y6⟩ : ItemV), rfl, ⟨sF.alloc _, Blk.allocAt (ItemV.cells (⟨3 * (j : Int), 1 + y1, 1 + y2, 1 + y3, 1 + y4, y5, 1 + y6⟩ : ItemV)) rfl, sF.hz, by simp, sF.farNew (Nat.le_refl _)⟩, (itm_ok (by omega) (by omega) py1 qy1 py2 qy2 py3 qy3 py4 qy4 py5 (by omega) py6 qy6), by show 1 + y6 ≤ 4; omega⟩
                                exact AllTo.nil
                              exact AllTo.nil
                            refine AllTo.cons (o := _) rfl (fun K hK => ?_) ?_
                            · (try simp only [List.getElem_toArray, List.getElem_cons_zero, List.getElem_cons_succ])
                              go_simp
                              have bz0 := Blk.allocAt (w := wE) (g := wE.heap.size) (t := 43) [.int .i64 0, .int .i64 0, .int .i64 0, .int .i64 0, .int .i64 0, .int .i64 0, .int .i64 0] rfl
                              have gR : R < wE.heap.size := by omega
                              have hfar : Far h (wE.heap.size) := St.farNew (by assumption : St w k a n c zs R r h wE) (Nat.le_refl _)
                              refine hK.out _ _ (fun _ => ?_) ?_
                              · first | assumption | go_keep
                              clear hK K
                              try simp only [Act.put, List.getElem_toArray, List.getElem_cons_zero, List.getElem_cons_succ, List.setIfInBounds_toArray, List.set_cons_zero, List.set_cons_succ]
                              refine wpTo_ready (rs := [19]) (by kernel_rfl) (by simp) ?_
                              refine AllTo.cons (o := _) rfl (fun K hK => ?_) ?_
                              · (try simp only [List.getElem_toArray, List.getElem_cons_zero, List.getElem_cons_succ])
                                go_simp
                                refine (below_st (w := w) (a := a) (n := n) (c := c) (zs := zs) (R := R) (r := r) (h := h) 4 (by repeat' (first | refine St.alloc ?_ _ | refine St.drew ?_ | assumption)) (by omega) (by omega)).mono ?_
                                rintro e wF ⟨y6, rfl, py6, qy6, sF, gF⟩
                                have cF : wF.cell? ⟨R, 5, none⟩ = some (.int .i64 (1 + x6)) := by rw [← hcl]; exact (sF.box 5 (by simp [reqCells])).1
                                have rF := sF.hz
                                have zF : wE.heap.size ≤ wF.heap.size := by (have h9 := gF.size; (try simp at h9); first | omega | exact h9)
                                have bzF := Blk.grown bz0 gF (by simp) (by intro e; injection e with e; omega)
                                have gzF : wE.heap.size < wF.heap.size := by (have h9 := gF.size; (try simp at h9); omega)
                                go_wp2_with fail
                                refine hK.out _ _ (fun _ => ?_) ?_
                                · first | assumption | go_keep
                                clear hK K
                                try simp only [Act.put, List.getElem_toArray, List.getElem_cons_zero, List.getElem_cons_succ, List.setIfInBounds_toArray, List.set_cons_zero, List.set_cons_succ]
                                refine wpTo_take (i := 20) (v := ?_) rfl (by kernel_rfl) (by kernel_rfl) (by kernel_rfl) (by kernel_rfl) (by kernel_rfl) (fun _ _ _ h => h) (Or.inl ⟨by rfl, ?_⟩) (by assumption) ?_
                                rotate_left
                                · intro w hSw
                                  (try dsimp only at hSw)
                                  go_simp <;> with_reducible rfl
                                try simp only [Act.put, List.getElem_toArray, List.getElem_cons_zero, List.getElem_cons_succ, List.setIfInBounds_toArray, List.set_cons_zero, List.set_cons_succ]
                                rw [wrap_small (x := 1 + y6) (by omega) (by omega)]
                                refine wpTo_take (i := 21) (v := ?_) rfl (by kernel_rfl) (by kernel_rfl) (by kernel_rfl) (by kernel_rfl) (by kernel_rfl) (fun _ _ _ h => h) (Or.inl ⟨by rfl, ?_⟩) (by assumption) ?_
                                rotate_left
                                · intro w hSw
                                  (try dsimp only at hSw)
                                  go_simp <;> with_reducible rfl
                                try simp only [Act.put, List.getElem_toArray, List.getElem_cons_zero, List.getElem_cons_succ, List.setIfInBounds_toArray, List.set_cons_zero, List.set_cons_succ]
                                refine wpTo_ready (rs := [23]) (by kernel_rfl) (by simp) ?_
                                refine AllTo.cons (o := _) rfl (fun K hK => ?_) ?_
                                · (try simp only [List.getElem_toArray, List.getElem_cons_zero, List.getElem_cons_succ])
                                  have oz0 : wF.cell? ⟨wE.heap.size, 0, none⟩ = some (.int .i64 0) := (bzF 0 (by simp)).1
                                  have fz0 : wF.frozen? ⟨wE.heap.size, 0, none⟩ = false := (bzF 0 (by simp)).2
                                  have oz1 : wF.cell? ⟨wE.heap.size, 1, none⟩ = some (.int .i64 0) := (bzF 1 (by simp)).1
                                  have fz1 : wF.frozen? ⟨wE.heap.size, 1, none⟩ = false := (bzF 1 (by simp)).2
                                  have oz2 : wF.cell? ⟨wE.heap.size, 2, none⟩ = some (.int .i64 0) := (bzF 2 (by simp)).1
                                  have fz2 : wF.frozen? ⟨wE.heap.size, 2, none⟩ = false := (bzF 2 (by simp)).2
                                  have oz3 : wF.cell? ⟨wE.heap.size, 3, none⟩ = some (.int .i64 0) := (bzF 3 (by simp)).1
                                  have fz3 : wF.frozen? ⟨wE.heap.size, 3, none⟩ = false := (bzF 3 (by simp)).2
                                  have oz4 : wF.cell? ⟨wE.heap.size, 4, none⟩ = some (.int .i64 0) := (bzF 4 (by simp)).1
                                  have fz4 : wF.frozen? ⟨wE.heap.size, 4, none⟩ = false := (bzF 4 (by simp)).2
                                  have oz5 : wF.cell? ⟨wE.heap.size, 5, none⟩ = some (.int .i64 0) := (bzF 5 (by simp)).1
                                  have fz5 : wF.frozen? ⟨wE.heap.size, 5, none⟩ = false := (bzF 5 (by simp)).2
                                  have oz6 : wF.cell? ⟨wE.heap.size, 6, none⟩ = some (.int .i64 0) := (bzF 6 (by simp)).1
                                  have fz6 : wF.frozen? ⟨wE.heap.size, 6, none⟩ = false := (bzF 6 (by simp)).2
                                  go_simp
                                  refine hK.out _ _ (fun hn => absurd (by decide) hn) ?_
                                  clear hK K
                                  try simp only [Act.put, List.getElem_toArray, List.getElem_cons_zero, List.getElem_cons_succ, List.setIfInBounds_toArray, List.set_cons_zero, List.set_cons_succ]
                                  refine wpTo_done (by kernel_rfl) ?_ _
                                  refine NoPanic.normal ?_
                                  go_wp2_with fail
                                  go_meet
                                  case rel => exact ⟨wE.heap.size, (⟨3 * (j : Int), 1 + y1, 1 + y2, 1 + y3, 1 + y4, y5, 1 + y6⟩ : ItemV), rfl, ⟨St.write gR hfar (ItemV.cells (⟨3 * (j : Int), 1 + y1, 1 + y2, 1 + y3, 1 + y4, y5, 1 + y6⟩ : ItemV)) wF 0 sF, Blk.write (ItemV.cells (⟨3 * (j : Int), 1 + y1, 1 + y2, 1 + y3, 1 + y4, y5, 1 + y6⟩ : ItemV)) wF 0 _ bzF (Nat.le_refl 7), gR, by simpa using gzF, hfar⟩, (itm_ok (by omega) (by omega) py1 qy1 py2 qy2 py3 qy3 py4 qy4 py5 (by omega) py6 qy6), by show 1 + y6 ≤ 4; omega⟩
                                exact AllTo.nil
                              exact AllTo.nil
                            exact AllTo.nil
                          refine AllTo.cons (o := _) rfl (fun K hK => ?_) ?_
                          · (try simp only [List.getElem_toArray, List.getElem_cons_zero, List.getElem_cons_succ])
                            go_simp
                            have bz0 := Blk.allocAt (w := wD) (g := wD.heap.size) (t := 43) [.int .i64 0, .int .i64 0, .int .i64 0, .int .i64 0, .int .i64 0, .int .i64 0, .int .i64 0] rfl
                            have gR : R < wD.heap.size := by omega
                            have hfar : Far h (wD.heap.size) := St.farNew (by assumption : St w k a n c zs R r h wD) (Nat.le_refl _)
                            refine hK.out _ _ (fun _ => ?_) ?_
                            · first | assumption | go_keep
                            clear hK K
                            try simp only [Act.put, List.getElem_toArray, List.getElem_cons_zero, List.getElem_cons_succ, List.setIfInBounds_toArray, List.set_cons_zero, List.set_cons_succ]
                            refine wpTo_ready (rs := [17]) (by kernel_rfl) (by simp) ?_
                            refine AllTo.cons (o := _) rfl (fun K hK => ?_) ?_
                            · (try simp only [List.getElem_toArray, List.getElem_cons_zero, List.getElem_cons_succ])
                              go_simp
                              refine (below_st (w := w) (a := a) (n := n) (c := c) (zs := zs) (R := R) (r := r) (h := h) (1 + x6) (by repeat' (first | refine St.alloc ?_ _ | refine St.drew ?_ | assumption)) (by omega) (by omega)).mono ?_
                              rintro e wE ⟨y5, rfl, py5, qy5, sE, gE⟩
                              have cE : wE.cell? ⟨R, 5, none⟩ = some (.int .i64 (1 + x6)) := by rw [← hcl]; exact (sE.box 5 (by simp [reqCells])).1
                              have rE := sE.hz
                              have zE : wD.heap.size ≤ wE.heap.size := by (have h9 := gE.size; (try simp at h9); first | omega | exact h9)
                              have bzE := Blk.grown bz0 gE (by simp) (by intro e; injection e with e; omega)
                              have gzE : wD.heap.size < wE.heap.size := by (have h9 := gE.size; (try simp at h9); omega)
                              go_wp2_with fail
                              refine hK.out _ _ (fun _ => ?_) ?_
                              · first | assumption | go_keep
                              clear hK K
                              try simp only [Act.put, List.getElem_toArray, List.getElem_cons_zero, List.getElem_cons_succ, List.setIfInBounds_toArray, List.set_cons_zero, List.set_cons_succ]
                              refine wpTo_ready (rs := [19]) (by kernel_rfl) (by simp) ?_
                              refine AllTo.cons (o := _) rfl (fun K hK => ?_) ?_
                              · (try simp only [List.getElem_toArray, List.getElem_cons_zero, List.getElem_cons_succ])
                                go_simp
                                refine (below_st (w := w) (a := a) (n := n) (c := c) (zs := zs) (R := R) (r := r) (h := h) 4 (by repeat' (first | refine St.alloc ?_ _ | refine St.drew ?_ | assumption)) (by omega) (by omega)).mono ?_
                                rintro e wF ⟨y6, rfl, py6, qy6, sF, gF⟩
                                have cF : wF.cell? ⟨R, 5, none⟩ = some (.int .i64 (1 + x6)) := by rw [← hcl]; exact (sF.box 5 (by simp [reqCells])).1
                                have rF := sF.hz
                                have zF : wE.heap.size ≤ wF.heap.size := by (have h9 := gF.size; (try simp at h9); first | omega | exact h9)
                                have bzF := Blk.grown bzE gF (gzE) (by intro e; injection e with e; omega)
                                have gzF : wD.heap.size < wF.heap.size := by (have h9 := gF.size; (try simp at h9); omega)
                                go_wp2_with fail
                                refine hK.out _ _ (fun _ => ?_) ?_
                                · first | assumption | go_keep
                                clear hK K
                                try simp only [Act.put, List.getElem_toArray, List.getElem_cons_zero, List.getElem_cons_succ, List.setIfInBounds_toArray, List.set_cons_zero, List.set_cons_succ]
                                refine wpTo_take (i := 20) (v := ?_) rfl (by kernel_rfl) (by kernel_rfl) (by kernel_rfl) (by kernel_rfl) (by kernel_rfl) (fun _ _ _ h => h) (Or.inl ⟨by rfl, ?_⟩) (by assumption) ?_
                                rotate_left
                                · intro w hSw
                                  (try dsimp only at hSw)
                                  go_simp <;> with_reducible rfl
                                try simp only [Act.put, List.getElem_toArray, List.getElem_cons_zero, List.getElem_cons_succ, List.setIfInBounds_toArray, List.set_cons_zero, List.set_cons_succ]
                                rw [wrap_small (x := 1 + y6) (by omega) (by omega)]
                                refine wpTo_take (i := 21) (v := ?_) rfl (by kernel_rfl) (by kernel_rfl) (by kernel_rfl) (by kernel_rfl) (by kernel_rfl) (fun _ _ _ h => h) (Or.inl ⟨by rfl, ?_⟩) (by assumption) ?_
                                rotate_left
                                · intro w hSw
                                  (try dsimp only at hSw)
                                  go_simp <;> with_reducible rfl
                                try simp only [Act.put, List.getElem_toArray, List.getElem_cons_zero, List.getElem_cons_succ, List.setIfInBounds_toArray, List.set_cons_zero, List.set_cons_succ]
                                refine wpTo_ready (rs := [23]) (by kernel_rfl) (by simp) ?_
                                refine AllTo.cons (o := _) rfl (fun K hK => ?_) ?_
                                · (try simp only [List.getElem_toArray, List.getElem_cons_zero, List.getElem_cons_succ])
                                  have oz0 : wF.cell? ⟨wD.heap.size, 0, none⟩ = some (.int .i64 0) := (bzF 0 (by simp)).1
                                  have fz0 : wF.frozen? ⟨wD.heap.size, 0, none⟩ = false := (bzF 0 (by simp)).2
                                  have oz1 : wF.cell? ⟨wD.heap.size, 1, none⟩ = some (.int .i64 0) := (bzF 1 (by simp)).1
                                  have fz1 : wF.frozen? ⟨wD.heap.size, 1, none⟩ = false := (bzF 1 (by simp)).2
                                  have oz2 : wF.cell? ⟨wD.heap.size, 2, none⟩ = some (.int .i64 0) := (bzF 2 (by simp)).1
                                  have fz2 : wF.frozen? ⟨wD.heap.size, 2, none⟩ = false := (bzF 2 (by simp)).2
                                  have oz3 : wF.cell? ⟨wD.heap.size, 3, none⟩ = some (.int .i64 0) := (bzF 3 (by simp)).1
                                  have fz3 : wF.frozen? ⟨wD.heap.size, 3, none⟩ = false := (bzF 3 (by simp)).2
                                  have oz4 : wF.cell? ⟨wD.heap.size, 4, none⟩ = some (.int .i64 0) := (bzF 4 (by simp)).1
                                  have fz4 : wF.frozen? ⟨wD.heap.size, 4, none⟩ = false := (bzF 4 (by simp)).2
                                  have oz5 : wF.cell? ⟨wD.heap.size, 5, none⟩ = some (.int .i64 0) := (bzF 5 (by simp)).1
                                  have fz5 : wF.frozen? ⟨wD.heap.size, 5, none⟩ = false := (bzF 5 (by simp)).2
                                  have oz6 : wF.cell? ⟨wD.heap.size, 6, none⟩ = some (.int .i64 0) := (bzF 6 (by simp)).1
                                  have fz6 : wF.frozen? ⟨wD.heap.size, 6, none⟩ = false := (bzF 6 (by simp)).2
                                  go_simp
                                  refine hK.out _ _ (fun hn => absurd (by decide) hn) ?_
                                  clear hK K
                                  try simp only [Act.put, List.getElem_toArray, List.getElem_cons_zero, List.getElem_cons_succ, List.setIfInBounds_toArray, List.set_cons_zero, List.set_cons_succ]
                                  refine wpTo_done (by kernel_rfl) ?_ _
                                  refine NoPanic.normal ?_
                                  go_wp2_with fail
                                  go_meet
                                  case rel => exact ⟨wD.heap.size, (⟨3 * (j : Int), 1 + y1, 1 + y2, 1 + y3, 1 + y4, y5, 1 + y6⟩ : ItemV), rfl, ⟨St.write gR hfar (ItemV.cells (⟨3 * (j : Int), 1 + y1, 1 + y2, 1 + y3, 1 + y4, y5, 1 + y6⟩ : ItemV)) wF 0 sF, Blk.write (ItemV.cells (⟨3 * (j : Int), 1 + y1, 1 + y2, 1 + y3, 1 + y4, y5, 1 + y6⟩ : ItemV)) wF 0 _ bzF (Nat.le_refl 7), gR, by simpa using gzF, hfar⟩, (itm_ok (by omega) (by omega) py1 qy1 py2 qy2 py3 qy3 py4 qy4 py5 (by omega) py6 qy6), by show 1 + y6 ≤ 4; omega⟩
                                exact AllTo.nil
                              exact AllTo.nil
                            exact AllTo.nil
                          exact AllTo.nil
                        refine AllTo.cons (o := _) rfl (fun K hK => ?_) ?_
                        · (try simp only [List.getElem_toArray, List.getElem_cons_zero, List.getElem_cons_succ])
                          go_simp
                          have bz0 := Blk.allocAt (w := wC) (g := wC.heap.size) (t := 43) [.int .i64 0, .int .i64 0, .int .i64 0, .int .i64 0, .int .i64 0, .int .i64 0, .int .i64 0] rfl
                          have gR : R < wC.heap.size := by omega
                          have hfar : Far h (wC.heap.size) := St.farNew (by assumption : St w k a n c zs R r h wC) (Nat.le_refl _)
                          refine hK.out _ _ (fun _ => ?_) ?_
                          · first | assumption | go_keep
                          clear hK K
                          try simp only [Act.put, List.getElem_toArray, List.getElem_cons_zero, List.getElem_cons_succ, List.setIfInBounds_toArray, List.set_cons_zero, List.set_cons_succ]
                          refine wpTo_ready (rs := [12]) (by kernel_rfl) (by simp) ?_
                          refine AllTo.cons (o := _) rfl (fun K hK => ?_) ?_
                          · (try simp only [List.getElem_toArray, List.getElem_cons_zero, List.getElem_cons_succ])
                            go_simp
                            refine (below_st (w := w) (a := a) (n := n) (c := c) (zs := zs) (R := R) (r := r) (h := h) 60 (by repeat' (first | refine St.alloc ?_ _ | refine St.drew ?_ | assumption)) (by omega) (by omega)).mono ?_
                            rintro e wD ⟨y4, rfl, py4, qy4, sD, gD⟩
                            have cD : wD.cell? ⟨R, 5, none⟩ = some (.int .i64 (1 + x6)) := by rw [← hcl]; exact (sD.box 5 (by simp [reqCells])).1
                            have rD := sD.hz
                            have zD : wC.heap.size ≤ wD.heap.size := by (have h9 := gD.size; (try simp at h9); first | omega | exact h9)
                            have bzD := Blk.grown bz0 gD (by simp) (by intro e; injection e with e; omega)
                            have gzD : wC.heap.size < wD.heap.size := by (have h9 := gD.size; (try simp at h9); omega)
                            go_wp2_with fail
                            refine hK.out _ _ (fun _ => ?_) ?_
                            · first | assumption | go_keep
                            clear hK K
                            try simp only [Act.put, List.getElem_toArray, List.getElem_cons_zero, List.getElem_cons_succ, List.setIfInBounds_toArray, List.set_cons_zero, List.set_cons_succ]
                            refine wpTo_take (i := 13) (v := ?_) rfl (by kernel_rfl) (by kernel_rfl) (by kernel_rfl) (by kernel_rfl) (by kernel_rfl) (fun _ _ _ h => h) (Or.inl ⟨by rfl, ?_⟩) (by assumption) ?_
                            rotate_left
                            · intro w hSw
                              (try dsimp only at hSw)
                              go_simp <;> with_reducible rfl
                            try simp only [Act.put, List.getElem_toArray, List.getElem_cons_zero, List.getElem_cons_succ, List.setIfInBounds_toArray, List.set_cons_zero, List.set_cons_succ]
                            rw [wrap_small (x := 1 + y4) (by omega) (by omega)]
                            refine wpTo_ready (rs := [17]) (by kernel_rfl) (by simp) ?_
                            refine AllTo.cons (o := _) rfl (fun K hK => ?_) ?_
                            · (try simp only [List.getElem_toArray, List.getElem_cons_zero, List.getElem_cons_succ])
                              go_simp
                              refine (below_st (w := w) (a := a) (n := n) (c := c) (zs := zs) (R := R) (r := r) (h := h) (1 + x6) (by repeat' (first | refine St.alloc ?_ _ | refine St.drew ?_ | assumption)) (by omega) (by omega)).mono ?_
                              rintro e wE ⟨y5, rfl, py5, qy5, sE, gE⟩
                              have cE : wE.cell? ⟨R, 5, none⟩ = some (.int .i64 (1 + x6)) := by rw [← hcl]; exact (sE.box 5 (by simp [reqCells])).1
                              have rE := sE.hz
                              have zE : wD.heap.size ≤ wE.heap.size := by (have h9 := gE.size; (try simp at h9); first | omega | exact h9)
                              have bzE := Blk.grown bzD gE (gzD) (by intro e; injection e with e; omega)
                              have gzE : wC.heap.size < wE.heap.size := by (have h9 := gE.size; (try simp at h9); omega)
                              go_wp2_with fail
                              refine hK.out _ _ (fun _ => ?_) ?_
                              · first | assumption | go_keep
                              clear hK K
                              try simp only [Act.put, List.getElem_toArray, List.getElem_cons_zero, List.getElem_cons_succ, List.setIfInBounds_toArray, List.set_cons_zero, List.set_cons_succ]
                              refine wpTo_ready (rs := [19]) (by kernel_rfl) (by simp) ?_
                              refine AllTo.cons (o := _) rfl (fun K hK => ?_) ?_
                              · (try simp only [List.getElem_toArray, List.getElem_cons_zero, List.getElem_cons_succ])
                                go_simp
                                refine (below_st (w := w) (a := a) (n := n) (c := c) (zs := zs) (R := R) (r := r) (h := h) 4 (by repeat' (first | refine St.alloc ?_ _ | refine St.drew ?_ | assumption)) (by omega) (by omega)).mono ?_
                                rintro e wF ⟨y6, rfl, py6, qy6, sF, gF⟩
                                have cF : wF.cell? ⟨R, 5, none⟩ = some (.int .i64 (1 + x6)) := by rw [← hcl]; exact (sF.box 5 (by simp [reqCells])).1
                                have rF := sF.hz
                                have zF : wE.heap.size ≤ wF.heap.size := by (have h9 := gF.size; (try simp at h9); first | omega | exact h9)
                                have bzF := Blk.grown bzE gF (gzE) (by intro e; injection e with e; omega)
                                have gzF : wC.heap.size < wF.heap.size := by (have h9 := gF.size; (try simp at h9); omega)
                                go_wp2_with fail
                                refine hK.out _ _ (fun _ => ?_) ?_
                                · first | assumption | go_keep
                                clear hK K
                                try simp only [Act.put, List.getElem_toArray, List.getElem_cons_zero, List.getElem_cons_succ, List.setIfInBounds_toArray, List.set_cons_zero, List.set_cons_succ]
                                refine wpTo_take (i := 20) (v := ?_) rfl (by kernel_rfl) (by kernel_rfl) (by kernel_rfl) (by kernel_rfl) (by kernel_rfl) (fun _ _ _ h => h) (Or.inl ⟨by rfl, ?_⟩) (by assumption) ?_
                                rotate_left
                                · intro w hSw
                                  (try dsimp only at hSw)
                                  go_simp <;> with_reducible rfl
                                try simp only [Act.put, List.getElem_toArray, List.getElem_cons_zero, List.getElem_cons_succ, List.setIfInBounds_toArray, List.set_cons_zero, List.set_cons_succ]
                                rw [wrap_small (x := 1 + y6) (by omega) (by omega)]
                                refine wpTo_take (i := 21) (v := ?_) rfl (by kernel_rfl) (by kernel_rfl) (by kernel_rfl) (by kernel_rfl) (by kernel_rfl) (fun _ _ _ h => h) (Or.inl ⟨by rfl, ?_⟩) (by assumption) ?_
                                rotate_left
                                · intro w hSw
                                  (try dsimp only at hSw)
                                  go_simp <;> with_reducible rfl
                                try simp only [Act.put, List.getElem_toArray, List.getElem_cons_zero, List.getElem_cons_succ, List.setIfInBounds_toArray, List.set_cons_zero, List.set_cons_succ]
                                refine wpTo_ready (rs := [23]) (by kernel_rfl) (by simp) ?_
                                refine AllTo.cons (o := _) rfl (fun K hK => ?_) ?_
                                · (try simp only [List.getElem_toArray, List.getElem_cons_zero, List.getElem_cons_succ])
                                  have oz0 : wF.cell? ⟨wC.heap.size, 0, none⟩ = some (.int .i64 0) := (bzF 0 (by simp)).1
                                  have fz0 : wF.frozen? ⟨wC.heap.size, 0, none⟩ = false := (bzF 0 (by simp)).2
                                  have oz1 : wF.cell? ⟨wC.heap.size, 1, none⟩ = some (.int .i64 0) := (bzF 1 (by simp)).1
                                  have fz1 : wF.frozen? ⟨wC.heap.size, 1, none⟩ = false := (bzF 1 (by simp)).2
                                  have oz2 : wF.cell? ⟨wC.heap.size, 2, none⟩ = some (.int .i64 0) := (bzF 2 (by simp)).1
                                  have fz2 : wF.frozen? ⟨wC.heap.size, 2, none⟩ = false := (bzF 2 (by simp)).2
                                  have oz3 : wF.cell? ⟨wC.heap.size, 3, none⟩ = some (.int .i64 0) := (bzF 3 (by simp)).1
                                  have fz3 : wF.frozen? ⟨wC.heap.size, 3, none⟩ = false := (bzF 3 (by simp)).2
                                  have oz4 : wF.cell? ⟨wC.heap.size, 4, none⟩ = some (.int .i64 0) := (bzF 4 (by simp)).1
                                  have fz4 : wF.frozen? ⟨wC.heap.size, 4, none⟩ = false := (bzF 4 (by simp)).2
                                  have oz5 : wF.cell? ⟨wC.heap.size, 5, none⟩ = some (.int .i64 0) := (bzF 5 (by simp)).1
                                  have fz5 : wF.frozen? ⟨wC.heap.size, 5, none⟩ = false := (bzF 5 (by simp)).2
                                  have oz6 : wF.cell? ⟨wC.heap.size, 6, none⟩ = some (.int .i64 0) := (bzF 6 (by simp)).1
                                  have fz6 : wF.frozen? ⟨wC.heap.size, 6, none⟩ = false := (bzF 6 (by simp)).2
                                  go_simp
                                  refine hK.out _ _ (fun hn => absurd (by decide) hn) ?_
                                  clear hK K
                                  try simp only [Act.put, List.getElem_toArray, List.getElem_cons_zero, List.getElem_cons_succ, List.setIfInBounds_toArray, List.set_cons_zero, List.set_cons_succ]
                                  refine wpTo_done (by kernel_rfl) ?_ _
                                  refine NoPanic.normal ?_
                                  go_wp2_with fail
                                  go_meet
                                  case rel => exact ⟨wC.heap.size, (⟨3 * (j : Int), 1 + y1, 1 + y2, 1 + y3, 1 + y4, y5, 1 + y6⟩ : ItemV), rfl, ⟨St.write gR hfar (ItemV.cells (⟨3 * (j : Int), 1 + y1, 1 + y2, 1 + y3, 1 + y4, y5, 1 + y6⟩ : ItemV)) wF 0 sF, Blk.write (ItemV.cells (⟨3 * (j : Int), 1 + y1, 1 + y2, 1 + y3, 1 + y4, y5, 1 + y6⟩ : ItemV)) wF 0 _ bzF (Nat.le_refl 7), gR, by simpa using gzF, hfar⟩, (itm_ok (by omega) (by omega) py1 qy1 py2 qy2 py3 qy3 py4 qy4 py5 (by omega) py6 qy6), by show 1 + y6 ≤ 4; omega⟩
                                exact AllTo.nil
                              exact AllTo.nil
                            exact AllTo.nil
                          exact AllTo.nil
                        exact AllTo.nil
                      refine AllTo.cons (o := _) rfl (fun K hK => ?_) ?_
                      · (try simp only [List.getElem_toArray, List.getElem_cons_zero, List.getElem_cons_succ])
                        go_simp
                        have bz0 := Blk.allocAt (w := wB) (g := wB.heap.size) (t := 43) [.int .i64 0, .int .i64 0, .int .i64 0, .int .i64 0, .int .i64 0, .int .i64 0, .int .i64 0] rfl
                        have gR : R < wB.heap.size := by omega
                        have hfar : Far h (wB.heap.size) := St.farNew (by assumption : St w k a n c zs R r h wB) (Nat.le_refl _)
                        refine hK.out _ _ (fun _ => ?_) ?_
                        · first | assumption | go_keep
                        clear hK K
                        try simp only [Act.put, List.getElem_toArray, List.getElem_cons_zero, List.getElem_cons_succ, List.setIfInBounds_toArray, List.set_cons_zero, List.set_cons_succ]
                        refine wpTo_ready (rs := [9]) (by kernel_rfl) (by simp) ?_
                        refine AllTo.cons (o := _) rfl (fun K hK => ?_) ?_
                        · (try simp only [List.getElem_toArray, List.getElem_cons_zero, List.getElem_cons_succ])
                          go_simp
                          refine (below_st (w := w) (a := a) (n := n) (c := c) (zs := zs) (R := R) (r := r) (h := h) 10 (by repeat' (first | refine St.alloc ?_ _ | refine St.drew ?_ | assumption)) (by omega) (by omega)).mono ?_
                          rintro e wC ⟨y3, rfl, py3, qy3, sC, gC⟩
                          have cC : wC.cell? ⟨R, 5, none⟩ = some (.int .i64 (1 + x6)) := by rw [← hcl]; exact (sC.box 5 (by simp [reqCells])).1
                          have rC := sC.hz
                          have zC : wB.heap.size ≤ wC.heap.size := by (have h9 := gC.size; (try simp at h9); first | omega | exact h9)
                          have bzC := Blk.grown bz0 gC (by simp) (by intro e; injection e with e; omega)
                          have gzC : wB.heap.size < wC.heap.size := by (have h9 := gC.size; (try simp at h9); omega)
                          go_wp2_with fail
                          refine hK.out _ _ (fun _ => ?_) ?_
                          · first | assumption | go_keep
                          clear hK K
                          try simp only [Act.put, List.getElem_toArray, List.getElem_cons_zero, List.getElem_cons_succ, List.setIfInBounds_toArray, List.set_cons_zero, List.set_cons_succ]
                          refine wpTo_take (i := 10) (v := ?_) rfl (by kernel_rfl) (by kernel_rfl) (by kernel_rfl) (by kernel_rfl) (by kernel_rfl) (fun _ _ _ h => h) (Or.inl ⟨by rfl, ?_⟩) (by assumption) ?_
                          rotate_left
                          · intro w hSw
                            (try dsimp only at hSw)
                            go_simp <;> with_reducible rfl
                          try simp only [Act.put, List.getElem_toArray, List.getElem_cons_zero, List.getElem_cons_succ, List.setIfInBounds_toArray, List.set_cons_zero, List.set_cons_succ]
                          rw [wrap_small (x := 1 + y3) (by omega) (by omega)]
                          refine wpTo_ready (rs := [12]) (by kernel_rfl) (by simp) ?_
                          refine AllTo.cons (o := _) rfl (fun K hK => ?_) ?_
                          · (try simp only [List.getElem_toArray, List.getElem_cons_zero, List.getElem_cons_succ])
                            go_simp
                            refine (below_st (w := w) (a := a) (n := n) (c := c) (zs := zs) (R := R) (r := r) (h := h) 60 (by repeat' (first | refine St.alloc ?_ _ | refine St.drew ?_ | assumption)) (by omega) (by omega)).mono ?_
                            rintro e wD ⟨y4, rfl, py4, qy4, sD, gD⟩
                            have cD : wD.cell? ⟨R, 5, none⟩ = some (.int .i64 (1 + x6)) := by rw [← hcl]; exact (sD.box 5 (by simp [reqCells])).1
                            have rD := sD.hz
                            have zD : wC.heap.size ≤ wD.heap.size := by (have h9 := gD.size; (try simp at h9); first | omega | exact h9)
                            have bzD := Blk.grown bzC gD (gzC) (by intro e; injection e with e; omega)
                            have gzD : wB.heap.size < wD.heap.size := by (have h9 := gD.size; (try simp at h9); omega)
                            go_wp2_with fail
                            refine hK.out _ _ (fun _ => ?_) ?_
                            · first | assumption | go_keep
                            clear hK K
                            try simp only [Act.put, List.getElem_toArray, List.getElem_cons_zero, List.getElem_cons_succ, List.setIfInBounds_toArray, List.set_cons_zero, List.set_cons_succ]
                            refine wpTo_take (i := 13) (v := ?_) rfl (by kernel_rfl) (by kernel_rfl) (by kernel_rfl) (by kernel_rfl) (by kernel_rfl) (fun _ _ _ h => h) (Or.inl ⟨by rfl, ?_⟩) (by assumption) ?_
                            rotate_left
                            · intro w hSw
                              (try dsimp only at hSw)
                              go_simp <;> with_reducible rfl
                            try simp only [Act.put, List.getElem_toArray, List.getElem_cons_zero, List.getElem_cons_succ, List.setIfInBounds_toArray, List.set_cons_zero, List.set_cons_succ]
                            rw [wrap_small (x := 1 + y4) (by omega) (by omega)]
                            refine wpTo_ready (rs := [17]) (by kernel_rfl) (by simp) ?_
                            refine AllTo.cons (o := _) rfl (fun K hK => ?_) ?_
                            · (try simp only [List.getElem_toArray, List.getElem_cons_zero, List.getElem_cons_succ])
                              go_simp
                              refine (below_st (w := w) (a := a) (n := n) (c := c) (zs := zs) (R := R) (r := r) (h := h) (1 + x6) (by repeat' (first | refine St.alloc ?_ _ | refine St.drew ?_ | assumption)) (by omega) (by omega)).mono ?_
                              rintro e wE ⟨y5, rfl, py5, qy5, sE, gE⟩
                              have cE : wE.cell? ⟨R, 5, none⟩ = some (.int .i64 (1 + x6)) := by rw [← hcl]; exact (sE.box 5 (by simp [reqCells])).1
                              have rE := sE.hz
                              have zE : wD.heap.size ≤ wE.heap.size := by (have h9 := gE.size; (try simp at h9); first | omega | exact h9)
                              have bzE := Blk.grown bzD gE (gzD) (by intro e; injection e with e; omega)
                              have gzE : wB.heap.size < wE.heap.size := by (have h9 := gE.size; (try simp at h9); omega)
                              go_wp2_with fail
                              refine hK.out _ _ (fun _ => ?_) ?_
                              · first | assumption | go_keep
                              clear hK K
                              try simp only [Act.put, List.getElem_toArray, List.getElem_cons_zero, List.getElem_cons_succ, List.setIfInBounds_toArray, List.set_cons_zero, List.set_cons_succ]
                              refine wpTo_ready (rs := [19]) (by kernel_rfl) (by simp) ?_
                              refine AllTo.cons (o := _) rfl (fun K hK => ?_) ?_
                              · (try simp only [List.getElem_toArray, List.getElem_cons_zero, List.getElem_cons_succ])
                                go_simp
                                refine (below_st (w := w) (a := a) (n := n) (c := c) (zs := zs) (R := R) (r := r) (h := h) 4 (by repeat' (first | refine St.alloc ?_ _ | refine St.drew ?_ | assumption)) (by omega) (by omega)).mono ?_
                                rintro e wF ⟨y6, rfl, py6, qy6, sF, gF⟩
                                have cF : wF.cell? ⟨R, 5, none⟩ = some (.int .i64 (1 + x6)) := by rw [← hcl]; exact (sF.box 5 (by simp [reqCells])).1
                                have rF := sF.hz
                                have zF : wE.heap.size ≤ wF.heap.size := by (have h9 := gF.size; (try simp at h9); first | omega | exact h9)
                                have bzF := Blk.grown bzE gF (gzE) (by intro e; injection e with e; omega)
                                have gzF : wB.heap.size < wF.heap.size := by (have h9 := gF.size; (try simp at h9); omega)
                                go_wp2_with fail
                                refine hK.out _ _ (fun _ => ?_) ?_
                                · first | assumption | go_keep
                                clear hK K
                                try simp only [Act.put, List.getElem_toArray, List.getElem_cons_zero, List.getElem_cons_succ, List.setIfInBounds_toArray, List.set_cons_zero, List.set_cons_succ]
                                refine wpTo_take (i := 20) (v := ?_) rfl (by kernel_rfl) (by kernel_rfl) (by kernel_rfl) (by kernel_rfl) (by kernel_rfl) (fun _ _ _ h => h) (Or.inl ⟨by rfl, ?_⟩) (by assumption) ?_
                                rotate_left
                                · intro w hSw
                                  (try dsimp only at hSw)
                                  go_simp <;> with_reducible rfl
                                try simp only [Act.put, List.getElem_toArray, List.getElem_cons_zero, List.getElem_cons_succ, List.setIfInBounds_toArray, List.set_cons_zero, List.set_cons_succ]
                                rw [wrap_small (x := 1 + y6) (by omega) (by omega)]
                                refine wpTo_take (i := 21) (v := ?_) rfl (by kernel_rfl) (by kernel_rfl) (by kernel_rfl) (by kernel_rfl) (by kernel_rfl) (fun _ _ _ h => h) (Or.inl ⟨by rfl, ?_⟩) (by assumption) ?_
                                rotate_left
                                · intro w hSw
                                  (try dsimp only at hSw)
                                  go_simp <;> with_reducible rfl
                                try simp only [Act.put, List.getElem_toArray, List.getElem_cons_zero, List.getElem_cons_succ, List.setIfInBounds_toArray, List.set_cons_zero, List.set_cons_succ]
                                refine wpTo_ready (rs := [23]) (by kernel_rfl) (by simp) ?_
                                refine AllTo.cons (o := _) rfl (fun K hK => ?_) ?_
                                · (try simp only [List.getElem_toArray, List.getElem_cons_zero, List.getElem_cons_succ])
                                  have oz0 : wF.cell? ⟨wB.heap.size, 0, none⟩ = some (.int .i64 0) := (bzF 0 (by simp)).1
                                  have fz0 : wF.frozen? ⟨wB.heap.size, 0, none⟩ = false := (bzF 0 (by simp)).2
                                  have oz1 : wF.cell? ⟨wB.heap.size, 1, none⟩ = some (.int .i64 0) := (bzF 1 (by simp)).1
                                  have fz1 : wF.frozen? ⟨wB.heap.size, 1, none⟩ = false := (bzF 1 (by simp)).2
                                  have oz2 : wF.cell? ⟨wB.heap.size, 2, none⟩ = some (.int .i64 0) := (bzF 2 (by simp)).1
                                  have fz2 : wF.frozen? ⟨wB.heap.size, 2, none⟩ = false := (bzF 2 (by simp)).2
                                  have oz3 : wF.cell? ⟨wB.heap.size, 3, none⟩ = some (.int .i64 0) := (bzF 3 (by simp)).1
                                  have fz3 : wF.frozen? ⟨wB.heap.size, 3, none⟩ = false := (bzF 3 (by simp)).2
                                  have oz4 : wF.cell? ⟨wB.heap.size, 4, none⟩ = some (.int .i64 0) := (bzF 4 (by simp)).1
                                  have fz4 : wF.frozen? ⟨wB.heap.size, 4, none⟩ = false := (bzF 4 (by simp)).2
                                  have oz5 : wF.cell? ⟨wB.heap.size, 5, none⟩ = some (.int .i64 0) := (bzF 5 (by simp)).1
                                  have fz5 : wF.frozen? ⟨wB.heap.size, 5, none⟩ = false := (bzF 5 (by simp)).2
                                  have oz6 : wF.cell? ⟨wB.heap.size, 6, none⟩ = some (.int .i64 0) := (bzF 6 (by simp)).1
                                  have fz6 : wF.frozen? ⟨wB.heap.size, 6, none⟩ = false := (bzF 6 (by simp)).2
                                  go_simp
                                  refine hK.out _ _ (fun hn => absurd (by decide) hn) ?_
                                  clear hK K
                                  try simp only [Act.put, List.getElem_toArray, List.getElem_cons_zero, List.getElem_cons_succ, List.setIfInBounds_toArray, List.set_cons_zero, List.set_cons_succ]
                                  refine wpTo_done (by kernel_rfl) ?_ _
                                  refine NoPanic.normal ?_
                                  go_wp2_with fail
                                  go_meet
                                  case rel => exact ⟨wB.heap.size, (⟨3 * (j : Int), 1 + y1, 1 + y2, 1 + y3, 1 + y4, y5, 1 + y6⟩ : ItemV), rfl, ⟨St.write gR hfar (ItemV.cells (⟨3 * (j : Int), 1 + y1, 1 + y2, 1 + y3, 1 + y4, y5, 1 + y6⟩ : ItemV)) wF 0 sF, Blk.write (ItemV.cells (⟨3 * (j : Int), 1 + y1, 1 + y2, 1 + y3, 1 + y4, y5, 1 + y6⟩ : ItemV)) wF 0 _ bzF (Nat.le_refl 7), gR, by simpa using gzF, hfar⟩, (itm_ok (by omega) (by omega) py1 qy1 py2 qy2 py3 qy3 py4 qy4 py5 (by omega) py6 qy6), by show 1 + y6 ≤ 4; omega⟩
                                exact AllTo.nil
                              exact AllTo.nil
                            exact AllTo.nil
                          exact AllTo.nil
                        exact AllTo.nil
                      exact AllTo.nil
                    refine AllTo.cons (o := _) rfl (fun K hK => ?_) ?_
                    · (try simp only [List.getElem_toArray, List.getElem_cons_zero, List.getElem_cons_succ])
                      go_simp
                      have bz0 := Blk.allocAt (w := wA) (g := wA.heap.size) (t := 43) [.int .i64 0, .int .i64 0, .int .i64 0, .int .i64 0, .int .i64 0, .int .i64 0, .int .i64 0] rfl
                      have gR : R < wA.heap.size := by omega
                      have hfar : Far h (wA.heap.size) := St.farNew (by assumption : St w k a n c zs R r h wA) (Nat.le_refl _)
                      refine hK.out _ _ (fun _ => ?_) ?_
                      · first | assumption | go_keep
                      clear hK K
                      try simp only [Act.put, List.getElem_toArray, List.getElem_cons_zero, List.getElem_cons_succ, List.setIfInBounds_toArray, List.set_cons_zero, List.set_cons_succ]
                      refine wpTo_ready (rs := [6]) (by kernel_rfl) (by simp) ?_
                      refine AllTo.cons (o := _) rfl (fun K hK => ?_) ?_
                      · (try simp only [List.getElem_toArray, List.getElem_cons_zero, List.getElem_cons_succ])
                        go_simp
                        refine (below_st (w := w) (a := a) (n := n) (c := c) (zs := zs) (R := R) (r := r) (h := h) 10 (by repeat' (first | refine St.alloc ?_ _ | refine St.drew ?_ | assumption)) (by omega) (by omega)).mono ?_
                        rintro e wB ⟨y2, rfl, py2, qy2, sB, gB⟩
                        have cB : wB.cell? ⟨R, 5, none⟩ = some (.int .i64 (1 + x6)) := by rw [← hcl]; exact (sB.box 5 (by simp [reqCells])).1
                        have rB := sB.hz
                        have zB : wA.heap.size ≤ wB.heap.size := by (have h9 := gB.size; (try simp at h9); first | omega | exact h9)
                        have bzB := Blk.grown bz0 gB (by simp) (by intro e; injection e with e; omega)
                        have gzB : wA.heap.size < wB.heap.size := by (have h9 := gB.size; (try simp at h9); omega)
                        go_wp2_with fail
                        refine hK.out _ _ (fun _ => ?_) ?_
                        · first | assumption | go_keep
                        clear hK K
                        try simp only [Act.put, List.getElem_toArray, List.getElem_cons_zero, List.getElem_cons_succ, List.setIfInBounds_toArray, List.set_cons_zero, List.set_cons_succ]
                        refine wpTo_take (i := 7) (v := ?_) rfl (by kernel_rfl) (by kernel_rfl) (by kernel_rfl) (by kernel_rfl) (by kernel_rfl) (fun _ _ _ h => h) (Or.inl ⟨by rfl, ?_⟩) (by assumption) ?_
                        rotate_left
                        · intro w hSw
                          (try dsimp only at hSw)
                          go_simp <;> with_reducible rfl
                        try simp only [Act.put, List.getElem_toArray, List.getElem_cons_zero, List.getElem_cons_succ, List.setIfInBounds_toArray, List.set_cons_zero, List.set_cons_succ]
                        rw [wrap_small (x := 1 + y2) (by omega) (by omega)]
                        refine wpTo_ready (rs := [9]) (by kernel_rfl) (by simp) ?_
                        refine AllTo.cons (o := _) rfl (fun K hK => ?_) ?_
                        · (try simp only [List.getElem_toArray, List.getElem_cons_zero, List.getElem_cons_succ])
                          go_simp
                          refine (below_st (w := w) (a := a) (n := n) (c := c) (zs := zs) (R := R) (r := r) (h := h) 10 (by repeat' (first | refine St.alloc ?_ _ | refine St.drew ?_ | assumption)) (by omega) (by omega)).mono ?_
                          rintro e wC ⟨y3, rfl, py3, qy3, sC, gC⟩
                          have cC : wC.cell? ⟨R, 5, none⟩ = some (.int .i64 (1 + x6)) := by rw [← hcl]; exact (sC.box 5 (by simp [reqCells])).1
                          have rC := sC.hz
                          have zC : wB.heap.size ≤ wC.heap.size := by (have h9 := gC.size; (try simp at h9); first | omega | exact h9)
                          have bzC := Blk.grown bzB gC (gzB) (by intro e; injection e with e; omega)
                          have gzC : wA.heap.size < wC.heap.size := by (have h9 := gC.size; (try simp at h9); omega)
                          go_wp2_with fail
                          refine hK.out _ _ (fun _ => ?_) ?_
                          · first | assumption | go_keep
                          clear hK K
                          try simp only [Act.put, List.getElem_toArray, List.getElem_cons_zero, List.getElem_cons_succ, List.setIfInBounds_toArray, List.set_cons_zero, List.set_cons_succ]
                          refine wpTo_take (i := 10) (v := ?_) rfl (by kernel_rfl) (by kernel_rfl) (by kernel_rfl) (by kernel_rfl) (by kernel_rfl) (fun _ _ _ h => h) (Or.inl ⟨by rfl, ?_⟩) (by assumption) ?_
                          rotate_left
                          · intro w hSw
                            (try dsimp only at hSw)
                            go_simp <;> with_reducible rfl
                          try simp only [Act.put, List.getElem_toArray, List.getElem_cons_zero, List.getElem_cons_succ, List.setIfInBounds_toArray, List.set_cons_zero, List.set_cons_succ]
                          rw [wrap_small (x := 1 + y3) (by omega) (by omega)]
                          refine wpTo_ready (rs := [12]) (by kernel_rfl) (by simp) ?_
                          refine AllTo.cons (o := _) rfl (fun K hK => ?_) ?_
                          · (try simp only [List.getElem_toArray, List.getElem_cons_zero, List.getElem_cons_succ])
                            go_simp
                            refine (below_st (w := w) (a := a) (n := n) (c := c) (zs := zs) (R := R) (r := r) (h := h) 60 (by repeat' (first | refine St.alloc ?_ _ | refine St.drew ?_ | assumption)) (by omega) (by omega)).mono ?_
                            rintro e wD ⟨y4, rfl, py4, qy4, sD, gD⟩
                            have cD : wD.cell? ⟨R, 5, none⟩ = some (.int .i64 (1 + x6)) := by rw [← hcl]; exact (sD.box 5 (by simp [reqCells])).1
                            have rD := sD.hz
                            have zD : wC.heap.size ≤ wD.heap.size := by (have h9 := gD.size; (try simp at h9); first | omega | exact h9)
                            have bzD := Blk.grown bzC gD (gzC) (by intro e; injection e with e; omega)
                            have gzD : wA.heap.size < wD.heap.size := by (have h9 := gD.size; (try simp at h9); omega)
                            go_wp2_with fail
                            refine hK.out _ _ (fun _ => ?_) ?_
                            · first | assumption | go_keep
                            clear hK K
                            try simp only [Act.put, List.getElem_toArray, List.getElem_cons_zero, List.getElem_cons_succ, List.setIfInBounds_toArray, List.set_cons_zero, List.set_cons_succ]
                            refine wpTo_take (i := 13) (v := ?_) rfl (by kernel_rfl) (by kernel_rfl) (by kernel_rfl) (by kernel_rfl) (by kernel_rfl) (fun _ _ _ h => h) (Or.inl ⟨by rfl, ?_⟩) (by assumption) ?_
                            rotate_left
                            · intro w hSw
                              (try dsimp only at hSw)
                              go_simp <;> with_reducible rfl
                            try simp only [Act.put, List.getElem_toArray, List.getElem_cons_zero, List.getElem_cons_succ, List.setIfInBounds_toArray, List.set_cons_zero, List.set_cons_succ]
                            rw [wrap_small (x := 1 + y4) (by omega) (by omega)]
                            refine wpTo_ready (rs := [17]) (by kernel_rfl) (by simp) ?_
                            refine AllTo.cons (o := _) rfl (fun K hK => ?_) ?_
                            · (try simp only [List.getElem_toArray, List.getElem_cons_zero, List.getElem_cons_succ])
                              go_simp
                              refine (below_st (w := w) (a := a) (n := n) (c := c) (zs := zs) (R := R) (r := r) (h := h) (1 + x6) (by repeat' (first | refine St.alloc ?_ _ | refine St.drew ?_ | assumption)) (by omega) (by omega)).mono ?_
                              rintro e wE ⟨y5, rfl, py5, qy5, sE, gE⟩
                              have cE : wE.cell? ⟨R, 5, none⟩ = some (.int .i64 (1 + x6)) := by rw [← hcl]; exact (sE.box 5 (by simp [reqCells])).1
                              have rE := sE.hz
                              have zE : wD.heap.size ≤ wE.heap.size := by (have h9 := gE.size; (try simp at h9); first | omega | exact h9)
                              have bzE := Blk.grown bzD gE (gzD) (by intro e; injection e with e; omega)
                              have gzE : wA.heap.size < wE.heap.size := by (have h9 := gE.size; (try simp at h9); omega)
                              go_wp2_with fail
                              refine hK.out _ _ (fun _ => ?_) ?_
                              · first | assumption | go_keep
                              clear hK K
                              try simp only [Act.put, List.getElem_toArray, List.getElem_cons_zero, List.getElem_cons_succ, List.setIfInBounds_toArray, List.set_cons_zero, List.set_cons_succ]
                              refine wpTo_ready (rs := [19]) (by kernel_rfl) (by simp) ?_
                              refine AllTo.cons (o := _) rfl (fun K hK => ?_) ?_
                              · (try simp only [List.getElem_toArray, List.getElem_cons_zero, List.getElem_cons_succ])
                                go_simp
                                refine (below_st (w := w) (a := a) (n := n) (c := c) (zs := zs) (R := R) (r := r) (h := h) 4 (by repeat' (first | refine St.alloc ?_ _ | refine St.drew ?_ | assumption)) (by omega) (by omega)).mono ?_
                                rintro e wF ⟨y6, rfl, py6, qy6, sF, gF⟩
                                have cF : wF.cell? ⟨R, 5, none⟩ = some (.int .i64 (1 + x6)) := by rw [← hcl]; exact (sF.box 5 (by simp [reqCells])).1
                                have rF := sF.hz
                                have zF : wE.heap.size ≤ wF.heap.size := by (have h9 := gF.size; (try simp at h9); first | omega | exact h9)
                                have bzF := Blk.grown bzE gF (gzE) (by intro e; injection e with e; omega)
                                have gzF : wA.heap.size < wF.heap.size := by (have h9 := gF.size; (try simp at h9); omega)
                                go_wp2_with fail
                                refine hK.out _ _ (fun _ => ?_) ?_
                                · first | assumption | go_keep
                                clear hK K
                                try simp only [Act.put, List.getElem_toArray, List.getElem_cons_zero, List.getElem_cons_succ, List.setIfInBounds_toArray, List.set_cons_zero, List.set_cons_succ]
                                refine wpTo_take (i := 20) (v := ?_) rfl (by kernel_rfl) (by kernel_rfl) (by kernel_rfl) (by kernel_rfl) (by kernel_rfl) (fun _ _ _ h => h) (Or.inl ⟨by rfl, ?_⟩) (by assumption) ?_
                                rotate_left
                                · intro w hSw
                                  (try dsimp only at hSw)
                                  go_simp <;> with_reducible rfl
                                try simp only [Act.put, List.getElem_toArray, List.getElem_cons_zero, List.getElem_cons_succ, List.setIfInBounds_toArray, List.set_cons_zero, List.set_cons_succ]
                                rw [wrap_small (x := 1 + y6) (by omega) (by omega)]
                                refine wpTo_take (i := 21) (v := ?_) rfl (by kernel_rfl) (by kernel_rfl) (by kernel_rfl) (by kernel_rfl) (by kernel_rfl) (fun _ _ _ h => h) (Or.inl ⟨by rfl, ?_⟩) (by assumption) ?_
                                rotate_left
                                · intro w hSw
                                  (try dsimp only at hSw)
                                  go_simp <;> with_reducible rfl
                                try simp only [Act.put, List.getElem_toArray, List.getElem_cons_zero, List.getElem_cons_succ, List.setIfInBounds_toArray, List.set_cons_zero, List.set_cons_succ]
                                refine wpTo_ready (rs := [23]) (by kernel_rfl) (by simp) ?_
                                refine AllTo.cons (o := _) rfl (fun K hK => ?_) ?_
                                · (try simp only [List.getElem_toArray, List.getElem_cons_zero, List.getElem_cons_succ])
                                  have oz0 : wF.cell? ⟨wA.heap.size, 0, none⟩ = some (.int .i64 0) := (bzF 0 (by simp)).1
                                  have fz0 : wF.frozen? ⟨wA.heap.size, 0, none⟩ = false := (bzF 0 (by simp)).2
                                  have oz1 : wF.cell? ⟨wA.heap.size, 1, none⟩ = some (.int .i64 0) := (bzF 1 (by simp)).1
                                  have fz1 : wF.frozen? ⟨wA.heap.size, 1, none⟩ = false := (bzF 1 (by simp)).2
                                  have oz2 : wF.cell? ⟨wA.heap.size, 2, none⟩ = some (.int .i64 0) := (bzF 2 (by simp)).1
                                  have fz2 : wF.frozen? ⟨wA.heap.size, 2, none⟩ = false := (bzF 2 (by simp)).2
                                  have oz3 : wF.cell? ⟨wA.heap.size, 3, none⟩ = some (.int .i64 0) := (bzF 3 (by simp)).1
                                  have fz3 : wF.frozen? ⟨wA.heap.size, 3, none⟩ = false := (bzF 3 (by simp)).2
                                  have oz4 : wF.cell? ⟨wA.heap.size, 4, none⟩ = some (.int .i64 0) := (bzF 4 (by simp)).1
                                  have fz4 : wF.frozen? ⟨wA.heap.size, 4, none⟩ = false := (bzF 4 (by simp)).2
                                  have oz5 : wF.cell? ⟨wA.heap.size, 5, none⟩ = some (.int .i64 0) := (bzF 5 (by simp)).1
                                  have fz5 : wF.frozen? ⟨wA.heap.size, 5, none⟩ = false := (bzF 5 (by simp)).2
                                  have oz6 : wF.cell? ⟨wA.heap.size, 6, none⟩ = some (.int .i64 0) := (bzF 6 (by simp)).1
                                  have fz6 : wF.frozen? ⟨wA.heap.size, 6, none⟩ = false := (bzF 6 (by simp)).2
                                  go_simp
                                  refine hK.out _ _ (fun hn => absurd (by decide) hn) ?_
                                  clear hK K
                                  try simp only [Act.put, List.getElem_toArray, List.getElem_cons_zero, List.getElem_cons_succ, List.setIfInBounds_toArray, List.set_cons_zero, List.set_cons_succ]
                                  refine wpTo_done (by kernel_rfl) ?_ _
                                  refine NoPanic.normal ?_
                                  go_wp2_with fail
                                  go_meet
                                  case rel => exact ⟨wA.heap.size, (⟨3 * (j : Int), 1 + y1, 1 + y2, 1 + y3, 1 + y4, y5, 1 + y6⟩ : ItemV), rfl, ⟨St.write gR hfar (ItemV.cells (⟨3 * (j : Int), 1 + y1, 1 + y2, 1 + y3, 1 + y4, y5, 1 + y6⟩ : ItemV)) wF 0 sF, Blk.write (ItemV.cells (⟨3 * (j : Int), 1 + y1, 1 + y2, 1 + y3, 1 + y4, y5, 1 + y6⟩ : ItemV)) wF 0 _ bzF (Nat.le_refl 7), gR, by simpa using gzF, hfar⟩, (itm_ok (by omega) (by omega) py1 qy1 py2 qy2 py3 qy3 py4 qy4 py5 (by omega) py6 qy6), by show 1 + y6 ≤ 4; omega⟩
                                exact AllTo.nil
                              exact AllTo.nil
                            exact AllTo.nil
                          exact AllTo.nil
                        exact AllTo.nil
                      exact AllTo.nil
                    exact AllTo.nil
                  refine AllTo.cons (o := _) rfl (fun K hK => ?_) ?_
                  · (try simp only [List.getElem_toArray, List.getElem_cons_zero, List.getElem_cons_succ])
                    go_simp
                    have bz0 := Blk.allocAt (w := wr.drew) (g := wr.heap.size) (t := 43) [.int .i64 0, .int .i64 0, .int .i64 0, .int .i64 0, .int .i64 0, .int .i64 0, .int .i64 0] rfl
                    have gR : R < wr.heap.size := by omega
                    have hfar : Far h (wr.heap.size) := St.farNew (by assumption : St w k a n c zs R r h wr) (Nat.le_refl _)
                    refine hK.out _ _ (fun _ => ?_) ?_
                    · first | assumption | go_keep
                    clear hK K
                    try simp only [Act.put, List.getElem_toArray, List.getElem_cons_zero, List.getElem_cons_succ, List.setIfInBounds_toArray, List.set_cons_zero, List.set_cons_succ]
                    refine wpTo_ready (rs := [3]) (by kernel_rfl) (by simp) ?_
                    refine AllTo.cons (o := _) rfl (fun K hK => ?_) ?_
                    · (try simp only [List.getElem_toArray, List.getElem_cons_zero, List.getElem_cons_succ])
                      go_simp
                      refine (below_st (w := w) (a := a) (n := n) (c := c) (zs := zs) (R := R) (r := r) (h := h) 10 (by repeat' (first | refine St.alloc ?_ _ | refine St.drew ?_ | assumption)) (by omega) (by omega)).mono ?_
                      rintro e wA ⟨y1, rfl, py1, qy1, sA, gA⟩
                      have cA : wA.cell? ⟨R, 5, none⟩ = some (.int .i64 (1 + x6)) := by rw [← hcl]; exact (sA.box 5 (by simp [reqCells])).1
                      have rA := sA.hz
                      have zA : wr.heap.size ≤ wA.heap.size := by (have h9 := gA.size; (try simp at h9); first | omega | exact h9)
                      have bzA := Blk.grown bz0 gA (by simp) (by intro e; injection e with e; omega)
                      have gzA : wr.heap.size < wA.heap.size := by (have h9 := gA.size; (try simp at h9); omega)
                      go_wp2_with fail
                      refine hK.out _ _ (fun _ => ?_) ?_
                      · first | assumption | go_keep
                      clear hK K
                      try simp only [Act.put, List.getElem_toArray, List.getElem_cons_zero, List.getElem_cons_succ, List.setIfInBounds_toArray, List.set_cons_zero, List.set_cons_succ]
                      refine wpTo_take (i := 4) (v := ?_) rfl (by kernel_rfl) (by kernel_rfl) (by kernel_rfl) (by kernel_rfl) (by kernel_rfl) (fun _ _ _ h => h) (Or.inl ⟨by rfl, ?_⟩) (by assumption) ?_
                      rotate_left
                      · intro w hSw
                        (try dsimp only at hSw)
                        go_simp <;> with_reducible rfl
                      try simp only [Act.put, List.getElem_toArray, List.getElem_cons_zero, List.getElem_cons_succ, List.setIfInBounds_toArray, List.set_cons_zero, List.set_cons_succ]
                      rw [wrap_small (x := 1 + y1) (by omega) (by omega)]
                      refine wpTo_ready (rs := [6]) (by kernel_rfl) (by simp) ?_
                      refine AllTo.cons (o := _) rfl (fun K hK => ?_) ?_
                      · (try simp only [List.getElem_toArray, List.getElem_cons_zero, List.getElem_cons_succ])
                        go_simp
                        refine (below_st (w := w) (a := a) (n := n) (c := c) (zs := zs) (R := R) (r := r) (h := h) 10 (by repeat' (first | refine St.alloc ?_ _ | refine St.drew ?_ | assumption)) (by omega) (by omega)).mono ?_
                        rintro e wB ⟨y2, rfl, py2, qy2, sB, gB⟩
                        have cB : wB.cell? ⟨R, 5, none⟩ = some (.int .i64 (1 + x6)) := by rw [← hcl]; exact (sB.box 5 (by simp [reqCells])).1
                        have rB := sB.hz
                        have zB : wA.heap.size ≤ wB.heap.size := by (have h9 := gB.size; (try simp at h9); first | omega | exact h9)
                        have bzB := Blk.grown bzA gB (gzA) (by intro e; injection e with e; omega)
                        have gzB : wr.heap.size < wB.heap.size := by (have h9 := gB.size; (try simp at h9); omega)
                        go_wp2_with fail
                        refine hK.out _ _ (fun _ => ?_) ?_
                        · first | assumption | go_keep
                        clear hK K
                        try simp only [Act.put, List.getElem_toArray, List.getElem_cons_zero, List.getElem_cons_succ, List.setIfInBounds_toArray, List.set_cons_zero, List.set_cons_succ]
                        refine wpTo_take (i := 7) (v := ?_) rfl (by kernel_rfl) (by kernel_rfl) (by kernel_rfl) (by kernel_rfl) (by kernel_rfl) (fun _ _ _ h => h) (Or.inl ⟨by rfl, ?_⟩) (by assumption) ?_
                        rotate_left
                        · intro w hSw
                          (try dsimp only at hSw)
                          go_simp <;> with_reducible rfl
                        try simp only [Act.put, List.getElem_toArray, List.getElem_cons_zero, List.getElem_cons_succ, List.setIfInBounds_toArray, List.set_cons_zero, List.set_cons_succ]
                        rw [wrap_small (x := 1 + y2) (by omega) (by omega)]
                        refine wpTo_ready (rs := [9]) (by kernel_rfl) (by simp) ?_
                        refine AllTo.cons (o := _) rfl (fun K hK => ?_) ?_
                        · (try simp only [List.getElem_toArray, List.getElem_cons_zero, List.getElem_cons_succ])
                          go_simp
                          refine (below_st (w := w) (a := a) (n := n) (c := c) (zs := zs) (R := R) (r := r) (h := h) 10 (by repeat' (first | refine St.alloc ?_ _ | refine St.drew ?_ | assumption)) (by omega) (by omega)).mono ?_
                          rintro e wC ⟨y3, rfl, py3, qy3, sC, gC⟩
                          have cC : wC.cell? ⟨R, 5, none⟩ = some (.int .i64 (1 + x6)) := by rw [← hcl]; exact (sC.box 5 (by simp [reqCells])).1
                          have rC := sC.hz
                          have zC : wB.heap.size ≤ wC.heap.size := by (have h9 := gC.size; (try simp at h9); first | omega | exact h9)
                          have bzC := Blk.grown bzB gC (gzB) (by intro e; injection e with e; omega)
                          have gzC : wr.heap.size < wC.heap.size := by (have h9 := gC.size; (try simp at h9); omega)
                          go_wp2_with fail
                          refine hK.out _ _ (fun _ => ?_) ?_
                          · first | assumption | go_keep
                          clear hK K
                          try simp only [Act.put, List.getElem_toArray, List.getElem_cons_zero, List.getElem_cons_succ, List.setIfInBounds_toArray, List.set_cons_zero, List.set_cons_succ]
                          refine wpTo_take (i := 10) (v := ?_) rfl (by kernel_rfl) (by kernel_rfl) (by kernel_rfl) (by kernel_rfl) (by kernel_rfl) (fun _ _ _ h => h) (Or.inl ⟨by rfl, ?_⟩) (by assumption) ?_
                          rotate_left
                          · intro w hSw
                            (try dsimp only at hSw)
                            go_simp <;> with_reducible rfl
                          try simp only [Act.put, List.getElem_toArray, List.getElem_cons_zero, List.getElem_cons_succ, List.setIfInBounds_toArray, List.set_cons_zero, List.set_cons_succ]
                          rw [wrap_small (x := 1 + y3) (by omega) (by omega)]
                          refine wpTo_ready (rs := [12]) (by kernel_rfl) (by simp) ?_
                          refine AllTo.cons (o := _) rfl (fun K hK => ?_) ?_
                          · (try simp only [List.getElem_toArray, List.getElem_cons_zero, List.getElem_cons_succ])
                            go_simp
                            refine (below_st (w := w) (a := a) (n := n) (c := c) (zs := zs) (R := R) (r := r) (h := h) 60 (by repeat' (first | refine St.alloc ?_ _ | refine St.drew ?_ | assumption)) (by omega) (by omega)).mono ?_
                            rintro e wD ⟨y4, rfl, py4, qy4, sD, gD⟩
                            have cD : wD.cell? ⟨R, 5, none⟩ = some (.int .i64 (1 + x6)) := by rw [← hcl]; exact (sD.box 5 (by simp [reqCells])).1
                            have rD := sD.hz
                            have zD : wC.heap.size ≤ wD.heap.size := by (have h9 := gD.size; (try simp at h9); first | omega | exact h9)
                            have bzD := Blk.grown bzC gD (gzC) (by intro e; injection e with e; omega)
                            have gzD : wr.heap.size < wD.heap.size := by (have h9 := gD.size; (try simp at h9); omega)
                            go_wp2_with fail
                            refine hK.out _ _ (fun _ => ?_) ?_
                            · first | assumption | go_keep
                            clear hK K
                            try simp only [Act.put, List.getElem_toArray, List.getElem_cons_zero, List.getElem_cons_succ, List.setIfInBounds_toArray, List.set_cons_zero, List.set_cons_succ]
                            refine wpTo_take (i := 13) (v := ?_) rfl (by kernel_rfl) (by kernel_rfl) (by kernel_rfl) (by kernel_rfl) (by kernel_rfl) (fun _ _ _ h => h) (Or.inl ⟨by rfl, ?_⟩) (by assumption) ?_
                            rotate_left
                            · intro w hSw
                              (try dsimp only at hSw)
                              go_simp <;> with_reducible rfl
                            try simp only [Act.put, List.getElem_toArray, List.getElem_cons_zero, List.getElem_cons_succ, List.setIfInBounds_toArray, List.set_cons_zero, List.set_cons_succ]
                            rw [wrap_small (x := 1 + y4) (by omega) (by omega)]
                            refine wpTo_ready (rs := [17]) (by kernel_rfl) (by simp) ?_
                            refine AllTo.cons (o := _) rfl (fun K hK => ?_) ?_
                            · (try simp only [List.getElem_toArray, List.getElem_cons_zero, List.getElem_cons_succ])
                              go_simp
                              refine (below_st (w := w) (a := a) (n := n) (c := c) (zs := zs) (R := R) (r := r) (h := h) (1 + x6) (by repeat' (first | refine St.alloc ?_ _ | refine St.drew ?_ | assumption)) (by omega) (by omega)).mono ?_
                              rintro e wE ⟨y5, rfl, py5, qy5, sE, gE⟩
                              have cE : wE.cell? ⟨R, 5, none⟩ = some (.int .i64 (1 + x6)) := by rw [← hcl]; exact (sE.box 5 (by simp [reqCells])).1
                              have rE := sE.hz
                              have zE : wD.heap.size ≤ wE.heap.size := by (have h9 := gE.size; (try simp at h9); first | omega | exact h9)
                              have bzE := Blk.grown bzD gE (gzD) (by intro e; injection e with e; omega)
                              have gzE : wr.heap.size < wE.heap.size := by (have h9 := gE.size; (try simp at h9); omega)
                              go_wp2_with fail
                              refine hK.out _ _ (fun _ => ?_) ?_
                              · first | assumption | go_keep
                              clear hK K
                              try simp only [Act.put, List.getElem_toArray, List.getElem_cons_zero, List.getElem_cons_succ, List.setIfInBounds_toArray, List.set_cons_zero, List.set_cons_succ]
                              refine wpTo_ready (rs := [19]) (by kernel_rfl) (by simp) ?_
                              refine AllTo.cons (o := _) rfl (fun K hK => ?_) ?_
                              · (try simp only [List.getElem_toArray, List.getElem_cons_zero, List.getElem_cons_succ])
                                go_simp
                                refine (below_st (w := w) (a := a) (n := n) (c := c) (zs := zs) (R := R) (r := r) (h := h) 4 (by repeat' (first | refine St.alloc ?_ _ | refine St.drew ?_ | assumption)) (by omega) (by omega)).mono ?_
                                rintro e wF ⟨y6, rfl, py6, qy6, sF, gF⟩
                                have cF : wF.cell? ⟨R, 5, none⟩ = some (.int .i64 (1 + x6)) := by rw [← hcl]; exact (sF.box 5 (by simp [reqCells])).1
                                have rF := sF.hz
                                have zF : wE.heap.size ≤ wF.heap.size := by (have h9 := gF.size; (try simp at h9); first | omega | exact h9)
                                have bzF := Blk.grown bzE gF (gzE) (by intro e; injection e with e; omega)
                                have gzF : wr.heap.size < wF.heap.size := by (have h9 := gF.size; (try simp at h9); omega)
                                go_wp2_with fail
                                refine hK.out _ _ (fun _ => ?_) ?_
                                · first | assumption | go_keep
                                clear hK K
                                try simp only [Act.put, List.getElem_toArray, List.getElem_cons_zero, List.getElem_cons_succ, List.setIfInBounds_toArray, List.set_cons_zero, List.set_cons_succ]
                                refine wpTo_take (i := 20) (v := ?_) rfl (by kernel_rfl) (by kernel_rfl) (by kernel_rfl) (by kernel_rfl) (by kernel_rfl) (fun _ _ _ h => h) (Or.inl ⟨by rfl, ?_⟩) (by assumption) ?_
                                rotate_left
                                · intro w hSw
                                  (try dsimp only at hSw)
                                  go_simp <;> with_reducible rfl
                                try simp only [Act.put, List.getElem_toArray, List.getElem_cons_zero, List.getElem_cons_succ, List.setIfInBounds_toArray, List.set_cons_zero, List.set_cons_succ]
                                rw [wrap_small (x := 1 + y6) (by omega) (by omega)]
                                refine wpTo_take (i := 21) (v := ?_) rfl (by kernel_rfl) (by kernel_rfl) (by kernel_rfl) (by kernel_rfl) (by kernel_rfl) (fun _ _ _ h => h) (Or.inl ⟨by rfl, ?_⟩) (by assumption) ?_
                                rotate_left
                                · intro w hSw
                                  (try dsimp only at hSw)
                                  go_simp <;> with_reducible rfl
                                try simp only [Act.put, List.getElem_toArray, List.getElem_cons_zero, List.getElem_cons_succ, List.setIfInBounds_toArray, List.set_cons_zero, List.set_cons_succ]
                                refine wpTo_ready (rs := [23]) (by kernel_rfl) (by simp) ?_
                                refine AllTo.cons (o := _) rfl (fun K hK => ?_) ?_
                                · (try simp only [List.getElem_toArray, List.getElem_cons_zero, List.getElem_cons_succ])
                                  have oz0 : wF.cell? ⟨wr.heap.size, 0, none⟩ = some (.int .i64 0) := (bzF 0 (by simp)).1
                                  have fz0 : wF.frozen? ⟨wr.heap.size, 0, none⟩ = false := (bzF 0 (by simp)).2
                                  have oz1 : wF.cell? ⟨wr.heap.size, 1, none⟩ = some (.int .i64 0) := (bzF 1 (by simp)).1
                                  have fz1 : wF.frozen? ⟨wr.heap.size, 1, none⟩ = false := (bzF 1 (by simp)).2
                                  have oz2 : wF.cell? ⟨wr.heap.size, 2, none⟩ = some (.int .i64 0) := (bzF 2 (by simp)).1
                                  have fz2 : wF.frozen? ⟨wr.heap.size, 2, none⟩ = false := (bzF 2 (by simp)).2
                                  have oz3 : wF.cell? ⟨wr.heap.size, 3, none⟩ = some (.int .i64 0) := (bzF 3 (by simp)).1
                                  have fz3 : wF.frozen? ⟨wr.heap.size, 3, none⟩ = false := (bzF 3 (by simp)).2
                                  have oz4 : wF.cell? ⟨wr.heap.size, 4, none⟩ = some (.int .i64 0) := (bzF 4 (by simp)).1
                                  have fz4 : wF.frozen? ⟨wr.heap.size, 4, none⟩ = false := (bzF 4 (by simp)).2
                                  have oz5 : wF.cell? ⟨wr.heap.size, 5, none⟩ = some (.int .i64 0) := (bzF 5 (by simp)).1
                                  have fz5 : wF.frozen? ⟨wr.heap.size, 5, none⟩ = false := (bzF 5 (by simp)).2
                                  have oz6 : wF.cell? ⟨wr.heap.size, 6, none⟩ = some (.int .i64 0) := (bzF 6 (by simp)).1
                                  have fz6 : wF.frozen? ⟨wr.heap.size, 6, none⟩ = false := (bzF 6 (by simp)).2
                                  go_simp
                                  refine hK.out _ _ (fun hn => absurd (by decide) hn) ?_
                                  clear hK K
                                  try simp only [Act.put, List.getElem_toArray, List.getElem_cons_zero, List.getElem_cons_succ, List.setIfInBounds_toArray, List.set_cons_zero, List.set_cons_succ]
                                  refine wpTo_done (by kernel_rfl) ?_ _
                                  refine NoPanic.normal ?_
                                  go_wp2_with fail
                                  go_meet
                                  case rel => exact ⟨wr.heap.size, (⟨3 * (j : Int), 1 + y1, 1 + y2, 1 + y3, 1 + y4, y5, 1 + y6⟩ : ItemV), rfl, ⟨St.write gR hfar (ItemV.cells (⟨3 * (j : Int), 1 + y1, 1 + y2, 1 + y3, 1 + y4, y5, 1 + y6⟩ : ItemV)) wF 0 sF, Blk.write (ItemV.cells (⟨3 * (j : Int), 1 + y1, 1 + y2, 1 + y3, 1 + y4, y5, 1 + y6⟩ : ItemV)) wF 0 _ bzF (Nat.le_refl 7), gR, by simpa using gzF, hfar⟩, (itm_ok (by omega) (by omega) py1 qy1 py2 qy2 py3 qy3 py4 qy4 py5 (by omega) py6 qy6), by show 1 + y6 ≤ 4; omega⟩
                                exact AllTo.nil
                              exact AllTo.nil
                            exact AllTo.nil
                          exact AllTo.nil
                        exact AllTo.nil
                      exact AllTo.nil
                    exact AllTo.nil
                  exact AllTo.nil
                case rest =>
                  obtain ⟨g, q, rfl, I, hqo, hq4⟩ := hcut
                  have HI := hide I
                  clear I s b5
                  go_wp2_with fail
                  refine (once_st (w := w) (a := a) (n := n) (c := c) (zs := zs) (R := R) (r := r) (h := h) 3 (by exact (unhide HI).st) (by omega) (by omega)).mono ?_
                  rintro e w9 ⟨b, rfl, s9, g9⟩
                  have HI9 := hide ((unhide HI).call g9 s9)
                  clear HI s9 g9
                  go_upto_if 142 with fail
                  go_cut [] (fun wc => ∃ q : ItemV, Itm w k a n c zs R r h g q wc ∧ q.ok = true ∧ q.cnt ≤ 4)
                  case first =>
                    cases b
                    · go_wp2_with fail
                      go_meet
                      case rel => exact ⟨q, unhide HI9, hqo, hq4⟩
                    · have HQO0 : ItemV.ok { q with wd := 5, ht := 5 } = true := ok_sides hqo (by omega) (by omega) (by omega) (by omega)
                      obtain ⟨e0, e1, e2, e3, e4, e5, e6⟩ := itmFacts (unhide HI9).blk
                      obtain ⟨f0, f1, f2, f3, f4, f5, f6⟩ := itmFree (unhide HI9).blk
                      have HIa : Hid (Itm w k a n c zs R r h g { q with wd := 5, ht := 5 } ((w9.setCell ⟨g, 1, none⟩ (.int .i64 5)).setCell ⟨g, 2, none⟩ (.int .i64 5))) := ((unhide HI9).set (q' := { q with wd := 5 }) 1 _ (by omega) rfl).set 2 _ (by omega) rfl
                      clear HI9
                      go_wp2_with fail
                      refine (below_st (w := w) (a := a) (n := n) (c := c) (zs := zs) (R := R) (r := r) (h := h) 8 (by exact (unhide HIa).st) (by omega) (by omega)).mono ?_
                      rintro e w10 ⟨y, rfl, py, qy, s10, g10⟩
                      have HI10 := hide ((unhide HIa).call g10 s10)
                      clear HIa s10 g10 e0 e1 e2 e3 e4 e5 e6 f0 f1 f2 f3 f4 f5 f6
                      obtain ⟨e0, e1, e2, e3, e4, e5, e6⟩ := itmFacts (unhide HI10).blk
                      obtain ⟨f0, f1, f2, f3, f4, f5, f6⟩ := itmFree (unhide HI10).blk
                      have HQO : ItemV.ok { q with wd := 5, ht := 5, dp := 4 + y } = true := ok_dp HQO0 (by omega) (by omega)
                      have HIb : Hid (Itm w k a n c zs R r h g { q with wd := 5, ht := 5, dp := 4 + y } (w10.setCell ⟨g, 3, none⟩ (.int .i64 (4 + y)))) := (unhide HI10).set 3 _ (by omega) rfl
                      go_wp2_with fail
                      go_meet
                      case rel => exact ⟨_, unhide HIb, HQO, hq4⟩
                  case rest =>
                    clear HI9 hqo hq4
                    obtain ⟨q, I, hqo, hq4⟩ := hcut
                    have HIc := hide I
                    clear I
                    have HQO : q.ok = true := hqo
                    have b9 : wc.cell? ⟨R, 9, none⟩ = some (.slice h.ai r.items.length h.ci) := ((unhide HIc).st.box 9 (by simp [reqCells])).1
                    have hzR := (unhide HIc).st.hz
                    have hgz := (unhide HIc).gz
                    obtain ⟨e0, e1, e2, e3, e4, e5, e6⟩ := itmFacts (unhide HIc).blk
                    obtain ⟨c1, c2⟩ := item_cnt HQO
                    obtain ⟨i0, hi0, hz0, hz1, hz2⟩ := info_parts Tryz.dinfoItem
                    have hcb := (cntSum_bd _ (unhide HIO)).1
                    by_cases hcs2 : cntSum r.items + q.cnt ≤ 12
                    · go_wp2_with (first
                        | (at_builtin; refine wpList_append_lies _ rfl _ _ 28 rfl (R + 1) 43 i0 (.agg #[.int .i64 0, .int .i64 0, .int .i64 0, .int .i64 0, .int .i64 0, .int .i64 0, .int .i64 0]) 7 56 Tryz.underlying28 hi0 hz0 hz1 hz2 rfl (by omega) (.slice h.ai r.items.length h.ci) r.items.length (r.items.flatMap ItemV.cells) (by rfl) ((unhide HIc).st.alloc _).lst.oi ⟨wc.heap.size, 0, none⟩ 1 1 (ItemV.cells q) (by rfl) rfl (World.news_of_block (heap_alloc_new _ _)) (by simp [ItemV.cells, Value.oneCell']) (by omega) (by unfold maxLen; omega) (by omega) (by simp; omega) (wc.heap.size + 1) (by simp) ?_; intro g' cap' wG hown hgrow hat hltG; obtain ⟨q9, t9⟩ := ((unhide HIc).st.alloc _).aftItem hgrow; have e6' : wG.cell? ⟨g, 6, none⟩ = some (.int .i64 q.cnt) := (hgrow.cell_far ⟨g, 6, none⟩ (by simp; omega) (aft_far (unhide HIc).far)).trans (((unhide HIc).blk.allocOld (unhide HIc).gz _) 6 (by simp [ItemV.cells])).1; have HOW := hide hown; have HGR := hide hgrow; have HAT := hide hat; clear hown hgrow hat)
                        | go_in)
                      go_roundw
                      case rel => exact ⟨j + 1, _, _, by omega, by go_num, by simp [cntSum, List.sum_append], ((unhide HIc).st.alloc _).appItem [q] (unhide HOW) (unhide HGR) (unhide HAT) (Nat.le_of_eq (by simp)), ⟨(unhide HF).way, (unhide HF).pal, (unhide HF).cl, (unhide HF).ms, (unhide HF).ps⟩, ht1, ht2, unhide HTO, by simp; omega, by simp only [List.all_append, unhide HIO, List.all_cons, HQO, List.all_nil, Bool.and_true, Bool.true_and], by rw [cntSum_snoc]; exact hcs2, hp⟩
                      case measure => simp [intOf]; omega
                    · go_wp2_with fail
                      go_roundw
                      case rel => exact ⟨j + 1, r, h, by omega, by go_num, rfl, (unhide HIc).st, unhide HF, ht1, ht2, unhide HTO, by omega, unhide HIO, hcs, hp⟩
                      case measure => simp [intOf]; omega
              · have HE := hide (right_ok f (by omega) (by omega) (by omega) (by omega) m2 m3 m4 m5 ht1 ht2 hto (by omega) hio hcs hp)
                have HD := hide (s.done (reqCells r h))
                obtain ⟨a0, a1, a2, a3, a4, a5, a6, a7, a8, a9⟩ := reqFacts s.box
                have RR := s.res
                have q0 : wr.cell? ⟨w.heap.size, 0, none⟩ = some (.int .i64 0) := (RR 0 (by simp [zeroReq])).1
                have t0 := (RR 0 (by simp [zeroReq])).2
                have q1 : wr.cell? ⟨w.heap.size, 1, none⟩ = some (.int .i64 0) := (RR 1 (by simp [zeroReq])).1
                have t1 := (RR 1 (by simp [zeroReq])).2
                have q2 : wr.cell? ⟨w.heap.size, 2, none⟩ = some (.int .i64 0) := (RR 2 (by simp [zeroReq])).1
                have t2 := (RR 2 (by simp [zeroReq])).2
                have q3 : wr.cell? ⟨w.heap.size, 3, none⟩ = some (.int .i64 0) := (RR 3 (by simp [zeroReq])).1
                have t3 := (RR 3 (by simp [zeroReq])).2
                have q4 : wr.cell? ⟨w.heap.size, 4, none⟩ = some (.int .i64 0) := (RR 4 (by simp [zeroReq])).1
                have t4 := (RR 4 (by simp [zeroReq])).2
                have q5 : wr.cell? ⟨w.heap.size, 5, none⟩ = some (.int .i64 0) := (RR 5 (by simp [zeroReq])).1
                have t5 := (RR 5 (by simp [zeroReq])).2
                have q6 : wr.cell? ⟨w.heap.size, 6, none⟩ = some (.slice none 0 0) := (RR 6 (by simp [zeroReq])).1
                have t6 := (RR 6 (by simp [zeroReq])).2
                have q7 : wr.cell? ⟨w.heap.size, 7, none⟩ = some (.slice none 0 0) := (RR 7 (by simp [zeroReq])).1
                have t7 := (RR 7 (by simp [zeroReq])).2
                have q8 : wr.cell? ⟨w.heap.size, 8, none⟩ = some (.int .i64 0) := (RR 8 (by simp [zeroReq])).1
                have t8 := (RR 8 (by simp [zeroReq])).2
                have q9 : wr.cell? ⟨w.heap.size, 9, none⟩ = some (.slice none 0 0) := (RR 9 (by simp [zeroReq])).1
                have t9 := (RR 9 (by simp [zeroReq])).2
                clear s f hto hio RR
                go_wp2_with fail
                refine bodyPost_ret (v := reqVal r h) (by simp [results, Tryz.results93, go_sem, reqVal, q0, q1, q2, q3, q4, q5, q6, q7, q8, q9]) rfl ?_
                exact ⟨r, h, rfl, unhide HE, (unhide HD).1, (unhide HD).2.1, (unhide HD).2.2⟩
    go_wp2_with fail
    go_loopw [5] (fun vb wr => ∃ (b : Nat) (r : ReqV) (h : ReqH), b ≤ A + 1 ∧ vb = .int .i64 b ∧ St w k a n c zs R r h wr ∧ Fst x1 x2 x3 x4 x5 x6 r ∧ r.types = [] ∧ r.items = [] ∧ r.pairs.length ≤ A * A + 2 * b ∧ (b = A + 1 → r.pairs.length ≤ A * A + 2 * A + 1)) (fun vb _ => A + 1 - (intOf vb).toNat)
    case atStart => exact ⟨0, r, h, by omega, rfl, unhide HS, unhide HF, unhide HT, unhide HI, by omega, by omega⟩
    case round =>
      clear HS HF HT HI b5
      obtain ⟨b, r, h, hb, rfl, s, f, ht, hi, hl1, hl2⟩ := hrel
      by_cases hba : b ≤ A
      case neg =>
        have HS := hide s
        have HF := hide f
        have HT := hide ht
        have HI := hide hi
        have HL := hide (hl2 (by omega))
        clear s f ht hi hl2
        go_wp2_with fail
        go_roundw
        case rel => exact ⟨A + 1, r, h, by omega, by go_num, unhide HS, unhide HF, unhide HT, unhide HI, by have := unhide HL; rw [Nat.succ_mul, Nat.mul_succ]; omega⟩
        case measure => simp [intOf]; omega
      have hlen : r.pairs.length ≤ 64 := by have := Nat.mul_le_mul (show A ≤ 4 by omega) (show A ≤ 4 by omega); omega
      obtain ⟨i0, hi0, hz0, hz1, hz2⟩ := info_parts Tryz.dinfoPair
      have b6 : wr.cell? ⟨R, 6, none⟩ = some (.slice h.ap r.pairs.length h.cp) := (s.box 6 (by simp [reqCells])).1
      have hz := s.hz
      have HS := hide s
      have HF := hide f
      have HT := hide ht
      have HI := hide hi
      clear s f ht hi
      by_cases hab : A = b
      · have e1 : ((A : Int) == (b : Int)) = true := by simp [hab]
        have HAB := hide hab
        clear hab
        go_wp2_with (first
          | (at_builtin; refine wpList_append_lies _ rfl _ _ 26 rfl (R + 1) 98 i0 (.agg #[.int .i64 0, .int .i64 0]) 2 16 Tryz.underlying26 hi0 hz0 hz1 hz2 rfl (by omega) (.slice h.ap r.pairs.length h.cp) r.pairs.length (r.pairs.flatMap PairV.cells) (by rfl) ((unhide HS).alloc _).lst.op ⟨wr.heap.size, 0, none⟩ 1 1 (PairV.cells ⟨A, A⟩) (by rfl) rfl (World.news_of_block (heap_alloc_new _ _)) (by simp [PairV.cells, Value.oneCell']) (by omega) (by unfold maxLen; omega) (by omega) (by simp; omega) (wr.heap.size + 1) (by simp) ?_; intro g cap w7 hown hgrow hat hlt7; obtain ⟨q6, t6⟩ := ((unhide HS).alloc _).aftPair hgrow; have HO := hide hown; have HGR := hide hgrow; have HAT := hide hat; clear hown hgrow hat)
          | go_in)
        go_roundw
        case rel => exact ⟨b + 1, _, _, by omega, by go_num, ((unhide HS).alloc _).appPair [⟨A, A⟩] (unhide HO) (unhide HGR) (unhide HAT) (by simp), (unhide HF).pairs [⟨A, A⟩] (by simp [pairB, inB]; omega), unhide HT, unhide HI, by simp; omega, by simp; have := unhide HAB; omega⟩
        case measure => simp [intOf]; omega
      · have e1 : ((A : Int) == (b : Int)) = false := by rw [beq_eq_false_iff_ne]; omega
        have HAB := hide hab
        clear hab
        go_wp2_with fail
        refine (l1Once_any k a n c zs 2 _ (unhide HS).cur (by omega) (by omega)).mono ?_
        rintro e w7 ⟨o, rfl, hc7, hg7⟩
        have HS7 := hide ((unhide HS).call hg7 hc7)
        have b6' : w7.cell? ⟨R, 6, none⟩ = some (.slice h.ap r.pairs.length h.cp) := ((unhide HS7).box 6 (by simp [reqCells])).1
        have hz7 := (unhide HS7).hz
        clear hc7 hg7 HS b6
        cases o
        · go_wp2_with fail
          go_roundw
          case rel => exact ⟨b + 1, r, h, by omega, by go_num, unhide HS7, unhide HF, unhide HT, unhide HI, by omega, by have := unhide HAB; omega⟩
          case measure => simp [intOf]; omega
        · go_wp2_with (first
            | (at_builtin; refine wpList_append_lies _ rfl _ _ 26 rfl (R + 1) 98 i0 (.agg #[.int .i64 0, .int .i64 0]) 2 16 Tryz.underlying26 hi0 hz0 hz1 hz2 rfl (by omega) (.slice h.ap r.pairs.length h.cp) r.pairs.length (r.pairs.flatMap PairV.cells) (by rfl) ((unhide HS7).alloc _).lst.op ⟨w7.heap.size, 0, none⟩ 2 2 ([⟨A, b⟩, ⟨b, A⟩].flatMap PairV.cells) (by rfl) rfl (World.news_of_block (heap_alloc_new _ _)) (by simp [PairV.cells, Value.oneCell']) (by omega) (by unfold maxLen; omega) (by omega) (by simp; omega) (w7.heap.size + 1) (by simp) ?_; intro g cap w8 hown hgrow hat hlt8; obtain ⟨q6, t6⟩ := ((unhide HS7).alloc _).aftPair hgrow; have HO := hide hown; have HGR := hide hgrow; have HAT := hide hat; clear hown hgrow hat)
            | go_in)
          go_roundw
          case rel => exact ⟨b + 1, _, _, by omega, by go_num, ((unhide HS7).alloc _).appPair [⟨A, b⟩, ⟨b, A⟩] (unhide HO) (unhide HGR) (unhide HAT) (by simp), (unhide HF).pairs [⟨A, b⟩, ⟨b, A⟩] (by simp [pairB, inB]; omega), unhide HT, unhide HI, by simp; omega, by simp; have := unhide HAB; omega⟩
          case measure => simp [intOf]; omega
end Go.Proofs.YtlakbnpinennnaaGreatDoor
