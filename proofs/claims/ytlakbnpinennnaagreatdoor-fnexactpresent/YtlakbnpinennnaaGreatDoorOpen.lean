/- What the row hands in, opened: structs of numbers, slices of them, an order. -/
import Derived.Test.YtlakbnpinennnaaGreatDoorReq
import Derived.OpenShut
import Derived.ChangeOld
import Derived.Deep.Slices
namespace Go.Proofs.YtlakbnpinennnaaGreatDoor
open Go.RowKit Go.ChangeShapes Go.WideShapes
set_option linter.unusedVariables false
set_option maxRecDepth 100000

section
variable {H : Type} {enc : TypeId × Value → H} {P : Program} {w : World} {base : Nat} {spare : Nat → Bool} {held : Bool}

theorem field_cut {cs : List Value} {c : Value} {off : Nat} (h : cs[off]? = some c) : (cs.drop off).take 1 = [c] := by
  obtain ⟨hl, rfl⟩ := List.getElem?_eq_some_iff.1 h
  show List.take (0 + 1) _ = _
  rw [List.drop_eq_getElem_cons hl, List.take_succ_cons, List.take_zero]
theorem field_int {fs : Array Field} {n : Nat} {cs : List Value} {xs : List (DataW H × List MemPlace)} (hf : ∀ (i : Nat) (f : Field), fs[i]? = some f → DataW.trod enc P w base spare held n f.type ((cs.drop f.offset).take (P.cellsOf f.type)) = xs[i]?)
    (hx : xs.length = fs.size) (i : Nat) (f : Field) (h : fs[i]? = some f) (hc : P.cellsOf f.type = 1) (ht : P.underlying f.type = some (.int .i64)) {c : Value} (hg : cs[f.offset]? = some c) : ∃ n : Int, c = .int .i64 n ∧ (Lit.int .i64 n).wf = true := by
  have h1 := hf i f h
  rw [hc, field_cut hg] at h1
  have hi : i < xs.length := by rw [hx]; exact (Array.getElem?_eq_some_iff.1 h).1
  rw [List.getElem?_eq_getElem hi] at h1
  obtain ⟨n, e, _, hw⟩ := DataW.trod_int ht h1
  simp only [List.cons.injEq, and_true] at e
  exact ⟨n, e, hw⟩
theorem field_one {fs : Array Field} {n : Nat} {cs : List Value} {xs : List (DataW H × List MemPlace)} (hf : ∀ (i : Nat) (f : Field), fs[i]? = some f → DataW.trod enc P w base spare held n f.type ((cs.drop f.offset).take (P.cellsOf f.type)) = xs[i]?)
    (hx : xs.length = fs.size) (i : Nat) (f : Field) (h : fs[i]? = some f) (hc : P.cellsOf f.type = 1) {c : Value} (hg : cs[f.offset]? = some c) : ∃ x, DataW.trod enc P w base spare held n f.type [c] = some x := by
  have h1 := hf i f h
  rw [hc, field_cut hg] at h1
  have hi : i < xs.length := by rw [hx]; exact (Array.getElem?_eq_some_iff.1 h).1
  rw [List.getElem?_eq_getElem hi] at h1
  exact ⟨_, h1⟩
theorem field_any {fs : Array Field} {n : Nat} {cs : List Value} {xs : List (DataW H × List MemPlace)} (hf : ∀ (i : Nat) (f : Field), fs[i]? = some f → DataW.trod enc P w base spare held n f.type ((cs.drop f.offset).take (P.cellsOf f.type)) = xs[i]?)
    (hx : xs.length = fs.size) (i : Nat) (f : Field) (h : fs[i]? = some f) {k : Nat} (hc : P.cellsOf f.type = k) {l : List Value} (hg : (cs.drop f.offset).take k = l) : ∃ x, DataW.trod enc P w base spare held n f.type l = some x := by
  have h1 := hf i f h
  rw [hc, hg] at h1
  have hi : i < xs.length := by rw [hx]; exact (Array.getElem?_eq_some_iff.1 h).1
  rw [List.getElem?_eq_getElem hi] at h1
  exact ⟨_, h1⟩

/-- A slice of rows. -/
theorem open_rows {α : Type} [Inhabited α] {cells : α → List Value} {k : Nat} {t e : TypeId} (ht : P.underlying t = some (.slice e)) (hk : P.cellsOf e = k) (hkp : 0 < k)
    (hlen : ∀ q, (cells q).length = k)
    (hel : ∀ (n : Nat) (cs : List Value) (x : DataW H × List MemPlace), DataW.trod enc P w base spare held n e cs = some x → ∃ q : α, cs = cells q) {fuel : Nat} {c : Value} {x : DataW H × List MemPlace}
    (h : DataW.trod enc P w base spare held fuel t [c] = some x) : ∃ (a : Option Addr) (cap : Nat) (xs : List α), c = .slice a xs.length cap ∧ xs.length ≤ maxLen ∧ RdR cells k w a xs.length xs := by
  rcases Deep.open_slice ht h with ⟨e0, _⟩ | ⟨a, len, cap, m, n, D, Pl, e0, hb, hl, hm, hmm, _, hx⟩
  · simp only [List.cons.injEq, and_true] at e0
    exact ⟨none, 0, [], e0, Nat.zero_le _, rfl, fun i hi => absurd hi (Nat.not_lt_zero _)⟩
  · simp only [List.cons.injEq, and_true] at e0
    have hlm : len ≤ m := by rw [hmm]; split <;> omega
    obtain ⟨q, hq⟩ := Deep.choose_lt (n := len) (p := fun i (q : α) => w.cells? base (a.add (i * k)) k = some (cells q)) (fun i hi => by
      obtain ⟨cs', h1, h2⟩ := hx i (by omega)
      obtain ⟨q, rfl⟩ := hel _ _ _ h2
      rw [hk] at h1
      exact ⟨q, h1⟩)
    have hlq : ((List.range len).map q).length = len := by simp
    refine ⟨some a, cap, (List.range len).map q, by rw [hlq]; exact e0, by rw [hlq]; omega, by rw [hlq], fun i hi => ?_⟩
    rw [hlq] at hi
    obtain ⟨_, hl1, hcell⟩ := World.cells?_some (hq i hi)
    have e1 : ((List.range len).map q).getD i default = q i := by simp [List.getD_eq_getElem?_getD, hi]
    rw [e1]
    have hs : a.spot = none := by
      have h0 := (World.cells?_some (hq 0 (by omega))).2.2 0 hkp
      rw [List.getElem?_eq_getElem (by rw [hlen]; exact hkp)] at h0
      simpa [Addr.add] using World.cell?_spot h0
    obtain ⟨b, off, spot⟩ := a
    simp only at hs
    subst hs
    refine ⟨b, off, rfl, fun j hj => ?_⟩
    have := hcell j hj
    rw [Deep.add_add] at this
    rw [← this]
    congr 1
    unfold Addr.add
    split
    · next h0 => simp only [Addr.mk.injEq, true_and, and_true]; omega
    · simp only [Addr.mk.injEq, true_and, and_true]; omega
end

theorem cells_Item_laws {H : Type} {enc : TypeId × Value → H} {w : World} {base : Nat} {spare : Nat → Bool} {held : Bool} (n : Nat) (cs : List Value) (x : DataW H × List MemPlace)
    (h : DataW.trod enc Tryz.prog w base spare held n 112 cs = some x) : ∃ q : ItemV, cs = q.cells := by
  obtain ⟨xs, m, _, _, hl, hx, hf⟩ := DataW.trod_struct Tryz.underlying112 h
  rw [show Tryz.prog.cellsOf 112 = 7 from by kernel_rfl] at hl
  match cs, hl with
  | [c0, c1, c2, c3, c4, c5, c6], _ =>
    obtain ⟨n0, rfl, _⟩ := field_int hf hx 0 _ rfl (by kernel_rfl) Tryz.underlying3 (c := c0) rfl
    obtain ⟨n1, rfl, _⟩ := field_int hf hx 1 _ rfl (by kernel_rfl) Tryz.underlying3 (c := c1) rfl
    obtain ⟨n2, rfl, _⟩ := field_int hf hx 2 _ rfl (by kernel_rfl) Tryz.underlying3 (c := c2) rfl
    obtain ⟨n3, rfl, _⟩ := field_int hf hx 3 _ rfl (by kernel_rfl) Tryz.underlying3 (c := c3) rfl
    obtain ⟨n4, rfl, _⟩ := field_int hf hx 4 _ rfl (by kernel_rfl) Tryz.underlying3 (c := c4) rfl
    obtain ⟨n5, rfl, _⟩ := field_int hf hx 5 _ rfl (by kernel_rfl) Tryz.underlying3 (c := c5) rfl
    obtain ⟨n6, rfl, _⟩ := field_int hf hx 6 _ rfl (by kernel_rfl) Tryz.underlying3 (c := c6) rfl
    exact ⟨⟨n0, n1, n2, n3, n4, n5, n6⟩, rfl⟩
theorem cells_Item_impl {H : Type} {enc : TypeId × Value → H} {w : World} {base : Nat} {spare : Nat → Bool} {held : Bool} (n : Nat) (cs : List Value) (x : DataW H × List MemPlace)
    (h : DataW.trod enc Tryz.prog w base spare held n 43 cs = some x) : ∃ q : ItemV, cs = q.cells := by
  obtain ⟨xs, m, _, _, hl, hx, hf⟩ := DataW.trod_struct Tryz.underlying43 h
  rw [show Tryz.prog.cellsOf 43 = 7 from by kernel_rfl] at hl
  match cs, hl with
  | [c0, c1, c2, c3, c4, c5, c6], _ =>
    obtain ⟨n0, rfl, _⟩ := field_int hf hx 0 _ rfl (by kernel_rfl) Tryz.underlying3 (c := c0) rfl
    obtain ⟨n1, rfl, _⟩ := field_int hf hx 1 _ rfl (by kernel_rfl) Tryz.underlying3 (c := c1) rfl
    obtain ⟨n2, rfl, _⟩ := field_int hf hx 2 _ rfl (by kernel_rfl) Tryz.underlying3 (c := c2) rfl
    obtain ⟨n3, rfl, _⟩ := field_int hf hx 3 _ rfl (by kernel_rfl) Tryz.underlying3 (c := c3) rfl
    obtain ⟨n4, rfl, _⟩ := field_int hf hx 4 _ rfl (by kernel_rfl) Tryz.underlying3 (c := c4) rfl
    obtain ⟨n5, rfl, _⟩ := field_int hf hx 5 _ rfl (by kernel_rfl) Tryz.underlying3 (c := c5) rfl
    obtain ⟨n6, rfl, _⟩ := field_int hf hx 6 _ rfl (by kernel_rfl) Tryz.underlying3 (c := c6) rfl
    exact ⟨⟨n0, n1, n2, n3, n4, n5, n6⟩, rfl⟩
theorem open_Item {H : Type} {enc : TypeId × Value → H} {w : World} {r : Reach} {b0 base : Nat} {spare : Nat → Bool} {held : Bool} {v : Value} {d : DataW H} {p : List MemPlace}
    (hv : Value.okWide Tryz.prog w r b0 112 v) (h : DataW.Trod enc Tryz.prog w base spare held 112 v d p) : ∃ q : ItemV, v = .agg #[.int .i64 q.id, .int .i64 q.wd, .int .i64 q.ht, .int .i64 q.dp, .int .i64 q.gram, .int .i64 q.cls, .int .i64 q.cnt] := by
  obtain ⟨cs, rfl, hsz⟩ := okWide_struct Tryz.underlying112 hv
  obtain ⟨fuel, hf⟩ := h
  obtain ⟨q, hq⟩ := cells_Item_laws _ _ _ hf
  refine ⟨q, ?_⟩
  have hq' : cs.toList = q.cells := hq
  congr 1
  rw [← Array.toArray_toList (xs := cs), hq']
  rfl
theorem cells_Type_laws {H : Type} {enc : TypeId × Value → H} {w : World} {base : Nat} {spare : Nat → Bool} {held : Bool} (n : Nat) (cs : List Value) (x : DataW H × List MemPlace)
    (h : DataW.trod enc Tryz.prog w base spare held n 110 cs = some x) : ∃ q : TypeV, cs = q.cells := by
  obtain ⟨xs, m, _, _, hl, hx, hf⟩ := DataW.trod_struct Tryz.underlying110 h
  rw [show Tryz.prog.cellsOf 110 = 7 from by kernel_rfl] at hl
  match cs, hl with
  | [c0, c1, c2, c3, c4, c5, c6], _ =>
    obtain ⟨n0, rfl, _⟩ := field_int hf hx 0 _ rfl (by kernel_rfl) Tryz.underlying3 (c := c0) rfl
    obtain ⟨n1, rfl, _⟩ := field_int hf hx 1 _ rfl (by kernel_rfl) Tryz.underlying3 (c := c1) rfl
    obtain ⟨n2, rfl, _⟩ := field_int hf hx 2 _ rfl (by kernel_rfl) Tryz.underlying3 (c := c2) rfl
    obtain ⟨n3, rfl, _⟩ := field_int hf hx 3 _ rfl (by kernel_rfl) Tryz.underlying3 (c := c3) rfl
    obtain ⟨n4, rfl, _⟩ := field_int hf hx 4 _ rfl (by kernel_rfl) Tryz.underlying3 (c := c4) rfl
    obtain ⟨n5, rfl, _⟩ := field_int hf hx 5 _ rfl (by kernel_rfl) Tryz.underlying3 (c := c5) rfl
    obtain ⟨n6, rfl, _⟩ := field_int hf hx 6 _ rfl (by kernel_rfl) Tryz.underlying3 (c := c6) rfl
    exact ⟨⟨n0, n1, n2, n3, n4, n5, n6⟩, rfl⟩
theorem cells_Type_impl {H : Type} {enc : TypeId × Value → H} {w : World} {base : Nat} {spare : Nat → Bool} {held : Bool} (n : Nat) (cs : List Value) (x : DataW H × List MemPlace)
    (h : DataW.trod enc Tryz.prog w base spare held n 69 cs = some x) : ∃ q : TypeV, cs = q.cells := by
  obtain ⟨xs, m, _, _, hl, hx, hf⟩ := DataW.trod_struct Tryz.underlying69 h
  rw [show Tryz.prog.cellsOf 69 = 7 from by kernel_rfl] at hl
  match cs, hl with
  | [c0, c1, c2, c3, c4, c5, c6], _ =>
    obtain ⟨n0, rfl, _⟩ := field_int hf hx 0 _ rfl (by kernel_rfl) Tryz.underlying3 (c := c0) rfl
    obtain ⟨n1, rfl, _⟩ := field_int hf hx 1 _ rfl (by kernel_rfl) Tryz.underlying3 (c := c1) rfl
    obtain ⟨n2, rfl, _⟩ := field_int hf hx 2 _ rfl (by kernel_rfl) Tryz.underlying3 (c := c2) rfl
    obtain ⟨n3, rfl, _⟩ := field_int hf hx 3 _ rfl (by kernel_rfl) Tryz.underlying3 (c := c3) rfl
    obtain ⟨n4, rfl, _⟩ := field_int hf hx 4 _ rfl (by kernel_rfl) Tryz.underlying3 (c := c4) rfl
    obtain ⟨n5, rfl, _⟩ := field_int hf hx 5 _ rfl (by kernel_rfl) Tryz.underlying3 (c := c5) rfl
    obtain ⟨n6, rfl, _⟩ := field_int hf hx 6 _ rfl (by kernel_rfl) Tryz.underlying3 (c := c6) rfl
    exact ⟨⟨n0, n1, n2, n3, n4, n5, n6⟩, rfl⟩
theorem open_Type {H : Type} {enc : TypeId × Value → H} {w : World} {r : Reach} {b0 base : Nat} {spare : Nat → Bool} {held : Bool} {v : Value} {d : DataW H} {p : List MemPlace}
    (hv : Value.okWide Tryz.prog w r b0 110 v) (h : DataW.Trod enc Tryz.prog w base spare held 110 v d p) : ∃ q : TypeV, v = .agg #[.int .i64 q.id, .int .i64 q.wd, .int .i64 q.ht, .int .i64 q.dp, .int .i64 q.tare, .int .i64 q.gram, .int .i64 q.cost] := by
  obtain ⟨cs, rfl, hsz⟩ := okWide_struct Tryz.underlying110 hv
  obtain ⟨fuel, hf⟩ := h
  obtain ⟨q, hq⟩ := cells_Type_laws _ _ _ hf
  refine ⟨q, ?_⟩
  have hq' : cs.toList = q.cells := hq
  congr 1
  rw [← Array.toArray_toList (xs := cs), hq']
  rfl
theorem cells_Pallet_laws {H : Type} {enc : TypeId × Value → H} {w : World} {base : Nat} {spare : Nat → Bool} {held : Bool} (n : Nat) (cs : List Value) (x : DataW H × List MemPlace)
    (h : DataW.trod enc Tryz.prog w base spare held n 44 cs = some x) : ∃ q : PalletV, cs = q.cells := by
  obtain ⟨xs, m, _, _, hl, hx, hf⟩ := DataW.trod_struct Tryz.underlying44 h
  rw [show Tryz.prog.cellsOf 44 = 4 from by kernel_rfl] at hl
  match cs, hl with
  | [c0, c1, c2, c3], _ =>
    obtain ⟨n0, rfl, _⟩ := field_int hf hx 0 _ rfl (by kernel_rfl) Tryz.underlying3 (c := c0) rfl
    obtain ⟨n1, rfl, _⟩ := field_int hf hx 1 _ rfl (by kernel_rfl) Tryz.underlying3 (c := c1) rfl
    obtain ⟨n2, rfl, _⟩ := field_int hf hx 2 _ rfl (by kernel_rfl) Tryz.underlying3 (c := c2) rfl
    obtain ⟨n3, rfl, _⟩ := field_int hf hx 3 _ rfl (by kernel_rfl) Tryz.underlying3 (c := c3) rfl
    exact ⟨⟨n0, n1, n2, n3⟩, rfl⟩
theorem cells_Pallet_impl {H : Type} {enc : TypeId × Value → H} {w : World} {base : Nat} {spare : Nat → Bool} {held : Bool} (n : Nat) (cs : List Value) (x : DataW H × List MemPlace)
    (h : DataW.trod enc Tryz.prog w base spare held n 25 cs = some x) : ∃ q : PalletV, cs = q.cells := by
  obtain ⟨xs, m, _, _, hl, hx, hf⟩ := DataW.trod_struct Tryz.underlying25 h
  rw [show Tryz.prog.cellsOf 25 = 4 from by kernel_rfl] at hl
  match cs, hl with
  | [c0, c1, c2, c3], _ =>
    obtain ⟨n0, rfl, _⟩ := field_int hf hx 0 _ rfl (by kernel_rfl) Tryz.underlying3 (c := c0) rfl
    obtain ⟨n1, rfl, _⟩ := field_int hf hx 1 _ rfl (by kernel_rfl) Tryz.underlying3 (c := c1) rfl
    obtain ⟨n2, rfl, _⟩ := field_int hf hx 2 _ rfl (by kernel_rfl) Tryz.underlying3 (c := c2) rfl
    obtain ⟨n3, rfl, _⟩ := field_int hf hx 3 _ rfl (by kernel_rfl) Tryz.underlying3 (c := c3) rfl
    exact ⟨⟨n0, n1, n2, n3⟩, rfl⟩
theorem open_Pallet {H : Type} {enc : TypeId × Value → H} {w : World} {r : Reach} {b0 base : Nat} {spare : Nat → Bool} {held : Bool} {v : Value} {d : DataW H} {p : List MemPlace}
    (hv : Value.okWide Tryz.prog w r b0 44 v) (h : DataW.Trod enc Tryz.prog w base spare held 44 v d p) : ∃ q : PalletV, v = .agg #[.int .i64 q.wd, .int .i64 q.dp, .int .i64 q.ht, .int .i64 q.gram] := by
  obtain ⟨cs, rfl, hsz⟩ := okWide_struct Tryz.underlying44 hv
  obtain ⟨fuel, hf⟩ := h
  obtain ⟨q, hq⟩ := cells_Pallet_laws _ _ _ hf
  refine ⟨q, ?_⟩
  have hq' : cs.toList = q.cells := hq
  congr 1
  rw [← Array.toArray_toList (xs := cs), hq']
  rfl
theorem cells_Pair_laws {H : Type} {enc : TypeId × Value → H} {w : World} {base : Nat} {spare : Nat → Bool} {held : Bool} (n : Nat) (cs : List Value) (x : DataW H × List MemPlace)
    (h : DataW.trod enc Tryz.prog w base spare held n 108 cs = some x) : ∃ q : PairV, cs = q.cells := by
  obtain ⟨xs, m, _, _, hl, hx, hf⟩ := DataW.trod_struct Tryz.underlying108 h
  rw [show Tryz.prog.cellsOf 108 = 2 from by kernel_rfl] at hl
  match cs, hl with
  | [c0, c1], _ =>
    obtain ⟨n0, rfl, _⟩ := field_int hf hx 0 _ rfl (by kernel_rfl) Tryz.underlying3 (c := c0) rfl
    obtain ⟨n1, rfl, _⟩ := field_int hf hx 1 _ rfl (by kernel_rfl) Tryz.underlying3 (c := c1) rfl
    exact ⟨⟨n0, n1⟩, rfl⟩
theorem cells_Pair_impl {H : Type} {enc : TypeId × Value → H} {w : World} {base : Nat} {spare : Nat → Bool} {held : Bool} (n : Nat) (cs : List Value) (x : DataW H × List MemPlace)
    (h : DataW.trod enc Tryz.prog w base spare held n 98 cs = some x) : ∃ q : PairV, cs = q.cells := by
  obtain ⟨xs, m, _, _, hl, hx, hf⟩ := DataW.trod_struct Tryz.underlying98 h
  rw [show Tryz.prog.cellsOf 98 = 2 from by kernel_rfl] at hl
  match cs, hl with
  | [c0, c1], _ =>
    obtain ⟨n0, rfl, _⟩ := field_int hf hx 0 _ rfl (by kernel_rfl) Tryz.underlying3 (c := c0) rfl
    obtain ⟨n1, rfl, _⟩ := field_int hf hx 1 _ rfl (by kernel_rfl) Tryz.underlying3 (c := c1) rfl
    exact ⟨⟨n0, n1⟩, rfl⟩
theorem open_Pair {H : Type} {enc : TypeId × Value → H} {w : World} {r : Reach} {b0 base : Nat} {spare : Nat → Bool} {held : Bool} {v : Value} {d : DataW H} {p : List MemPlace}
    (hv : Value.okWide Tryz.prog w r b0 108 v) (h : DataW.Trod enc Tryz.prog w base spare held 108 v d p) : ∃ q : PairV, v = .agg #[.int .i64 q.a, .int .i64 q.b] := by
  obtain ⟨cs, rfl, hsz⟩ := okWide_struct Tryz.underlying108 hv
  obtain ⟨fuel, hf⟩ := h
  obtain ⟨q, hq⟩ := cells_Pair_laws _ _ _ hf
  refine ⟨q, ?_⟩
  have hq' : cs.toList = q.cells := hq
  congr 1
  rw [← Array.toArray_toList (xs := cs), hq']
  rfl
theorem cells_Request {H : Type} {enc : TypeId × Value → H} {w : World} {base : Nat} {spare : Nat → Bool} {held : Bool} (n : Nat) (cs : List Value) (x : DataW H × List MemPlace)
    (h : DataW.trod enc Tryz.prog w base spare held n 49 cs = some x) :
    ∃ (r : ReqV) (hd : ReqH), .agg cs.toArray = reqVal r hd ∧ RdReq w r hd ∧ r.pairs.length ≤ maxLen ∧ r.types.length ≤ maxLen ∧ r.items.length ≤ maxLen := by
  obtain ⟨xs, m, _, _, hl, hx, hf⟩ := DataW.trod_struct Tryz.underlying49 h
  rw [show Tryz.prog.cellsOf 49 = 10 from by kernel_rfl] at hl
  match cs, hl with
  | [c0, c1, c2, c3, c4, c5, c6, c7, c8, c9], _ =>
    obtain ⟨n0, rfl, _⟩ := field_int hf hx 0 _ rfl (by kernel_rfl) Tryz.underlying3 (c := c0) rfl
    obtain ⟨n2, rfl, _⟩ := field_int hf hx 2 _ rfl (by kernel_rfl) Tryz.underlying3 (c := c5) rfl
    obtain ⟨n5, rfl, _⟩ := field_int hf hx 5 _ rfl (by kernel_rfl) Tryz.underlying3 (c := c8) rfl
    obtain ⟨y1, h1⟩ := field_any hf hx 1 _ rfl (k := 4) (by kernel_rfl) (l := [c1, c2, c3, c4]) rfl
    obtain ⟨pq, hpq⟩ := cells_Pallet_laws _ _ _ h1
    simp only [PalletV.cells, List.cons.injEq, and_true] at hpq
    obtain ⟨rfl, rfl, rfl, rfl⟩ := hpq
    obtain ⟨y3, h3⟩ := field_one hf hx 3 _ rfl (by kernel_rfl) (c := c6) rfl
    obtain ⟨y4, h4⟩ := field_one hf hx 4 _ rfl (by kernel_rfl) (c := c7) rfl
    obtain ⟨y6, h6⟩ := field_one hf hx 6 _ rfl (by kernel_rfl) (c := c9) rfl
    obtain ⟨a3, p3, x3, rfl, l3, r3⟩ := open_rows (cells := PairV.cells) (k := 2) Tryz.underlying45 (by kernel_rfl) (by omega) PairV.len (fun n cs x h => cells_Pair_laws n cs x h) h3
    obtain ⟨a4, p4, x4, rfl, l4, r4⟩ := open_rows (cells := TypeV.cells) (k := 7) Tryz.underlying46 (by kernel_rfl) (by omega) TypeV.len (fun n cs x h => cells_Type_laws n cs x h) h4
    obtain ⟨a6, p6, x6, rfl, l6, r6⟩ := open_rows (cells := ItemV.cells) (k := 7) Tryz.underlying47 (by kernel_rfl) (by omega) ItemV.len (fun n cs x h => cells_Item_laws n cs x h) h6
    exact ⟨⟨n0, pq, n2, x3, x4, n5, x6⟩, ⟨a3, a4, a6, p3, p4, p6⟩, rfl, ⟨r3, r4, r6⟩, l3, l4, l6⟩
theorem open_Request {H : Type} {enc : TypeId × Value → H} {w : World} {r : Reach} {b0 base : Nat} {spare : Nat → Bool} {held : Bool} {v : Value} {d : DataW H} {p : List MemPlace}
    (hv : Value.okWide Tryz.prog w r b0 49 v) (h : DataW.Trod enc Tryz.prog w base spare held 49 v d p) :
    ∃ (q : ReqV) (hd : ReqH), v = reqVal q hd ∧ RdReq w q hd ∧ q.pairs.length ≤ maxLen ∧ q.types.length ≤ maxLen ∧ q.items.length ≤ maxLen := by
  obtain ⟨cs, rfl, hsz⟩ := okWide_struct Tryz.underlying49 hv
  obtain ⟨fuel, hf⟩ := h
  have := cells_Request _ _ _ hf
  simpa [Value.cells] using this
end Go.Proofs.YtlakbnpinennnaaGreatDoor
