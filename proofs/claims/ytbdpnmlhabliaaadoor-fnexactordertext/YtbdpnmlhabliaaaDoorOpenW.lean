/- An order that the row hands in, opened, with its numbers' range. -/
import Derived.Test.YtbdpnmlhabliaaaDoorOpen
import Derived.Test.YtbdpnmlhabliaaaDoorOpen3
import Derived.Test.YtbdpnmlhabliaaaDoorOrderPlain
namespace Go.Proofs.YtbdpnmlhabliaaaDoor
open Go.RowKit Go.ChangeShapes Go.WideShapes
set_option linter.unusedVariables false
set_option maxRecDepth 100000

theorem cells_Item_w {H : Type} {enc : TypeId × Value → H} {w : World} {base : Nat} {spare : Nat → Bool} {held : Bool} (n : Nat) (cs : List Value) (x : DataW H × List MemPlace)
    (h : DataW.trod enc Tryd.prog w base spare held n 131 cs = some x) : ∃ q : ItemV, cs = q.cells ∧ ∀ m ∈ q.nums, NumR m := by
  obtain ⟨xs, m, _, _, hl, hx, hf⟩ := DataW.trod_struct Tryd.underlying131 h
  rw [show Tryd.prog.cellsOf 131 = 7 from by kernel_rfl] at hl
  match cs, hl with
  | [c0, c1, c2, c3, c4, c5, c6], _ =>
    obtain ⟨n0, rfl, g0⟩ := field_int hf hx 0 _ rfl (by kernel_rfl) Tryd.underlying3 (c := c0) rfl
    obtain ⟨n1, rfl, g1⟩ := field_int hf hx 1 _ rfl (by kernel_rfl) Tryd.underlying3 (c := c1) rfl
    obtain ⟨n2, rfl, g2⟩ := field_int hf hx 2 _ rfl (by kernel_rfl) Tryd.underlying3 (c := c2) rfl
    obtain ⟨n3, rfl, g3⟩ := field_int hf hx 3 _ rfl (by kernel_rfl) Tryd.underlying3 (c := c3) rfl
    obtain ⟨n4, rfl, g4⟩ := field_int hf hx 4 _ rfl (by kernel_rfl) Tryd.underlying3 (c := c4) rfl
    obtain ⟨n5, rfl, g5⟩ := field_int hf hx 5 _ rfl (by kernel_rfl) Tryd.underlying3 (c := c5) rfl
    obtain ⟨n6, rfl, g6⟩ := field_int hf hx 6 _ rfl (by kernel_rfl) Tryd.underlying3 (c := c6) rfl
    refine ⟨⟨n0, n1, n2, n3, n4, n5, n6⟩, rfl, ?_⟩
    intro m hm
    simp only [ItemV.nums, List.mem_cons, List.not_mem_nil, or_false] at hm
    rcases hm with rfl | rfl | rfl | rfl | rfl | rfl | rfl
    · exact bounds_i64 g0
    · exact bounds_i64 g1
    · exact bounds_i64 g2
    · exact bounds_i64 g3
    · exact bounds_i64 g4
    · exact bounds_i64 g5
    · exact bounds_i64 g6
theorem cells_Type_w {H : Type} {enc : TypeId × Value → H} {w : World} {base : Nat} {spare : Nat → Bool} {held : Bool} (n : Nat) (cs : List Value) (x : DataW H × List MemPlace)
    (h : DataW.trod enc Tryd.prog w base spare held n 129 cs = some x) : ∃ q : TypeV, cs = q.cells ∧ ∀ m ∈ q.nums, NumR m := by
  obtain ⟨xs, m, _, _, hl, hx, hf⟩ := DataW.trod_struct Tryd.underlying129 h
  rw [show Tryd.prog.cellsOf 129 = 7 from by kernel_rfl] at hl
  match cs, hl with
  | [c0, c1, c2, c3, c4, c5, c6], _ =>
    obtain ⟨n0, rfl, g0⟩ := field_int hf hx 0 _ rfl (by kernel_rfl) Tryd.underlying3 (c := c0) rfl
    obtain ⟨n1, rfl, g1⟩ := field_int hf hx 1 _ rfl (by kernel_rfl) Tryd.underlying3 (c := c1) rfl
    obtain ⟨n2, rfl, g2⟩ := field_int hf hx 2 _ rfl (by kernel_rfl) Tryd.underlying3 (c := c2) rfl
    obtain ⟨n3, rfl, g3⟩ := field_int hf hx 3 _ rfl (by kernel_rfl) Tryd.underlying3 (c := c3) rfl
    obtain ⟨n4, rfl, g4⟩ := field_int hf hx 4 _ rfl (by kernel_rfl) Tryd.underlying3 (c := c4) rfl
    obtain ⟨n5, rfl, g5⟩ := field_int hf hx 5 _ rfl (by kernel_rfl) Tryd.underlying3 (c := c5) rfl
    obtain ⟨n6, rfl, g6⟩ := field_int hf hx 6 _ rfl (by kernel_rfl) Tryd.underlying3 (c := c6) rfl
    refine ⟨⟨n0, n1, n2, n3, n4, n5, n6⟩, rfl, ?_⟩
    intro m hm
    simp only [TypeV.nums, List.mem_cons, List.not_mem_nil, or_false] at hm
    rcases hm with rfl | rfl | rfl | rfl | rfl | rfl | rfl
    · exact bounds_i64 g0
    · exact bounds_i64 g1
    · exact bounds_i64 g2
    · exact bounds_i64 g3
    · exact bounds_i64 g4
    · exact bounds_i64 g5
    · exact bounds_i64 g6
theorem cells_Pallet_w {H : Type} {enc : TypeId × Value → H} {w : World} {base : Nat} {spare : Nat → Bool} {held : Bool} (n : Nat) (cs : List Value) (x : DataW H × List MemPlace)
    (h : DataW.trod enc Tryd.prog w base spare held n 42 cs = some x) : ∃ q : PalletV, cs = q.cells ∧ ∀ m ∈ q.nums, NumR m := by
  obtain ⟨xs, m, _, _, hl, hx, hf⟩ := DataW.trod_struct Tryd.underlying42 h
  rw [show Tryd.prog.cellsOf 42 = 4 from by kernel_rfl] at hl
  match cs, hl with
  | [c0, c1, c2, c3], _ =>
    obtain ⟨n0, rfl, g0⟩ := field_int hf hx 0 _ rfl (by kernel_rfl) Tryd.underlying3 (c := c0) rfl
    obtain ⟨n1, rfl, g1⟩ := field_int hf hx 1 _ rfl (by kernel_rfl) Tryd.underlying3 (c := c1) rfl
    obtain ⟨n2, rfl, g2⟩ := field_int hf hx 2 _ rfl (by kernel_rfl) Tryd.underlying3 (c := c2) rfl
    obtain ⟨n3, rfl, g3⟩ := field_int hf hx 3 _ rfl (by kernel_rfl) Tryd.underlying3 (c := c3) rfl
    refine ⟨⟨n0, n1, n2, n3⟩, rfl, ?_⟩
    intro m hm
    simp only [PalletV.nums, List.mem_cons, List.not_mem_nil, or_false] at hm
    rcases hm with rfl | rfl | rfl | rfl
    · exact bounds_i64 g0
    · exact bounds_i64 g1
    · exact bounds_i64 g2
    · exact bounds_i64 g3
theorem cells_Pair_w {H : Type} {enc : TypeId × Value → H} {w : World} {base : Nat} {spare : Nat → Bool} {held : Bool} (n : Nat) (cs : List Value) (x : DataW H × List MemPlace)
    (h : DataW.trod enc Tryd.prog w base spare held n 127 cs = some x) : ∃ q : PairV, cs = q.cells ∧ ∀ m ∈ q.nums, NumR m := by
  obtain ⟨xs, m, _, _, hl, hx, hf⟩ := DataW.trod_struct Tryd.underlying127 h
  rw [show Tryd.prog.cellsOf 127 = 2 from by kernel_rfl] at hl
  match cs, hl with
  | [c0, c1], _ =>
    obtain ⟨n0, rfl, g0⟩ := field_int hf hx 0 _ rfl (by kernel_rfl) Tryd.underlying3 (c := c0) rfl
    obtain ⟨n1, rfl, g1⟩ := field_int hf hx 1 _ rfl (by kernel_rfl) Tryd.underlying3 (c := c1) rfl
    refine ⟨⟨n0, n1⟩, rfl, ?_⟩
    intro m hm
    simp only [PairV.nums, List.mem_cons, List.not_mem_nil, or_false] at hm
    rcases hm with rfl | rfl
    · exact bounds_i64 g0
    · exact bounds_i64 g1
theorem cells_RequestW {H : Type} {enc : TypeId × Value → H} {w : World} {base : Nat} {spare : Nat → Bool} {held : Bool} (n : Nat) (cs : List Value) (x : DataW H × List MemPlace)
    (h : DataW.trod enc Tryd.prog w base spare held n 47 cs = some x) :
    ∃ (r : ReqV) (hd : ReqH), .agg cs.toArray = reqVal r hd ∧ RdReq w r hd ∧ r.pairs.length ≤ maxLen ∧ r.types.length ≤ maxLen ∧ r.items.length ≤ maxLen ∧ r.wf := by
  obtain ⟨xs, m, _, _, hl, hx, hf⟩ := DataW.trod_struct Tryd.underlying47 h
  rw [show Tryd.prog.cellsOf 47 = 10 from by kernel_rfl] at hl
  match cs, hl with
  | [c0, c1, c2, c3, c4, c5, c6, c7, c8, c9], _ =>
    obtain ⟨n0, rfl, g0⟩ := field_int hf hx 0 _ rfl (by kernel_rfl) Tryd.underlying3 (c := c0) rfl
    obtain ⟨n2, rfl, g2⟩ := field_int hf hx 2 _ rfl (by kernel_rfl) Tryd.underlying3 (c := c5) rfl
    obtain ⟨n5, rfl, g5⟩ := field_int hf hx 5 _ rfl (by kernel_rfl) Tryd.underlying3 (c := c8) rfl
    obtain ⟨y1, h1⟩ := field_any hf hx 1 _ rfl (k := 4) (by kernel_rfl) (l := [c1, c2, c3, c4]) rfl
    obtain ⟨pq, hpq, gp⟩ := cells_Pallet_w _ _ _ h1
    simp only [PalletV.cells, List.cons.injEq, and_true] at hpq
    obtain ⟨rfl, rfl, rfl, rfl⟩ := hpq
    obtain ⟨y3, h3⟩ := field_one hf hx 3 _ rfl (by kernel_rfl) (c := c6) rfl
    obtain ⟨y4, h4⟩ := field_one hf hx 4 _ rfl (by kernel_rfl) (c := c7) rfl
    obtain ⟨y6, h6⟩ := field_one hf hx 6 _ rfl (by kernel_rfl) (c := c9) rfl
    obtain ⟨a3, p3, x3, rfl, l3, r3, w3⟩ := open_list (cells := PairV.cells) (k := 2) Tryd.underlying43 (by kernel_rfl) (by omega) PairV.len (fun n cs x h => cells_Pair_w n cs x h) h3
    obtain ⟨a4, p4, x4, rfl, l4, r4, w4⟩ := open_list (cells := TypeV.cells) (k := 7) Tryd.underlying44 (by kernel_rfl) (by omega) TypeV.len (fun n cs x h => cells_Type_w n cs x h) h4
    obtain ⟨a6, p6, x6, rfl, l6, r6, w6⟩ := open_list (cells := ItemV.cells) (k := 7) Tryd.underlying45 (by kernel_rfl) (by omega) ItemV.len (fun n cs x h => cells_Item_w n cs x h) h6
    refine ⟨⟨n0, pq, n2, x3, x4, n5, x6⟩, ⟨a3, a4, a6, p3, p4, p6⟩, rfl, ⟨r3, r4, r6⟩, l3, l4, l6, ?_⟩
    intro p hp m hm
    simp only [linesR, rowsOf, List.mem_cons, List.mem_append, List.mem_map, List.not_mem_nil, or_false] at hp
    rcases hp with rfl | (((((rfl | rfl) | ⟨q, hq, rfl⟩) | ⟨q, hq, rfl⟩) | rfl) | ⟨q, hq, rfl⟩)
    · rw [List.mem_singleton.1 hm]; exact bounds_i64 g0
    · exact gp m hm
    · rw [List.mem_singleton.1 hm]; exact bounds_i64 g2
    · exact w3 q hq m hm
    · exact w4 q hq m hm
    · rw [List.mem_singleton.1 hm]; exact bounds_i64 g5
    · exact w6 q hq m hm
theorem open_RequestW {H : Type} {enc : TypeId × Value → H} {w : World} {r : Reach} {b0 base : Nat} {spare : Nat → Bool} {held : Bool} {v : Value} {d : DataW H} {p : List MemPlace}
    (hv : Value.okWide Tryd.prog w r b0 47 v) (h : DataW.Trod enc Tryd.prog w base spare held 47 v d p) :
    ∃ (q : ReqV) (hd : ReqH), v = reqVal q hd ∧ RdReq w q hd ∧ q.pairs.length ≤ maxLen ∧ q.types.length ≤ maxLen ∧ q.items.length ≤ maxLen ∧ q.wf := by
  obtain ⟨cs, rfl, hsz⟩ := okWide_struct Tryd.underlying47 hv
  obtain ⟨fuel, hf⟩ := h
  have := cells_RequestW _ _ _ hf
  simpa [Value.cells] using this
end Go.Proofs.YtbdpnmlhabliaaaDoor
