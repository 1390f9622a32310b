/- CartonsSt, CartonsSt2: one text. -/
import Derived.Test.YtphdeojiehigpaaGreatDoorPkK
import Derived.Test.YtphdeojiehigpaaGreatDoorOwnO
import Derived.Test.YtphdeojiehigpaaGreatDoorSortO
import Derived.Test.YtphdeojiehigpaaGreatDoorAppendSome
/- Cartons that are made out of rows: what has been made, what still waits; a row that is sorted in its place. -/
namespace Go.Proofs.YtphdeojiehigpaaGreatDoor
open Go.RowKit
set_option linter.unusedVariables false

/-- The cartons xs made so far (their row at g), the rows R that still wait (at bo, from place j on). -/
structure Mk (w : World) (B g cap : Nat) (xs : List CRow) (bo j : Nat) (R : List RowV) : Prop where
  out : w.ownsRow B 42 3 (.slice (some ⟨g, 0, none⟩) xs.length cap) xs.length (cellsC xs)
  rws : Rws w B g (xs.map CRow.row ++ R)
  src : ∀ i, i < R.length → w.cell? ⟨bo, j + i, none⟩ = some (R.getD i default).val
  lt : bo < w.heap.size
  ne : bo ≠ g
  far : ∀ i, i < (xs.map CRow.row ++ R).length → ((xs.map CRow.row ++ R).getD i default).g ≠ bo
theorem Mk.later {w w' : World} {B g cap bo j : Nat} {xs : List CRow} {R : List RowV} (h : Mk w B g cap xs bo j R) (hb : Below w.heap.size w w') : Mk w' B g cap xs bo j R :=
  ⟨own_later h.out hb, h.rws.later hb, fun i hi => (hb.cell (p := ⟨bo, j + i, none⟩) h.lt).trans (h.src i hi), Nat.lt_of_lt_of_le h.lt hb.size, h.ne, h.far⟩
theorem getD_app_l {α : Type} {xs ys : List α} {d : α} {i : Nat} (h : i < xs.length) : (xs ++ ys).getD i d = xs.getD i d := by
  simp only [List.getD_eq_getElem?_getD]; rw [List.getElem?_append_left h]
theorem getD_app_r {α : Type} {xs ys : List α} {d : α} {i : Nat} : (xs ++ ys).getD (xs.length + i) d = ys.getD i d := by
  simp only [List.getD_eq_getElem?_getD]; rw [List.getElem?_append_right (by omega)]; congr 2; omega
theorem app_cases {α : Type} {xs ys : List α} {d : α} {i : Nat} (h : i < (xs ++ ys).length) : (i < xs.length ∧ (xs ++ ys).getD i d = xs.getD i d) ∨ ∃ k, k < ys.length ∧ i = xs.length + k ∧ (xs ++ ys).getD i d = ys.getD k d := by
  by_cases h1 : i < xs.length
  · exact .inl ⟨h1, getD_app_l h1⟩
  · rw [List.length_append] at h
    refine .inr ⟨i - xs.length, by omega, by omega, ?_⟩
    obtain ⟨k, rfl⟩ : ∃ k, i = xs.length + k := ⟨i - xs.length, by omega⟩
    rw [getD_app_r]; congr 1; omega
theorem OwnC.opened {w w' : World} {B g cap bo cb : Nat} {xs : List CRow} {R : List RowV} (h : OwnC w B g cap xs) (hb : Below w.heap.size w w') (hB : B ≤ w.heap.size) (ho : Own2 w' w.heap.size bo cb R) : Mk w' B g cap xs bo 0 R := by
  have hbo := own_base ho.out
  have hbl := (ho.out.lt bo rfl).2
  have hg := (h.out.lt g rfl).2
  have hx := h.rws.later hb
  refine ⟨own_later h.out hb, ⟨fun i hi => ?_, fun i j hi hj e => ?_, fun i hi => ?_⟩, fun i hi => by rw [Nat.zero_add]; exact (ho.cell i hi).1, hbl, by omega, fun i hi => ?_⟩
  · rcases app_cases (d := (default : RowV)) hi with ⟨h1, h2⟩ | ⟨k, h1, h2, h3⟩
    · rw [h2]; exact hx.row i h1
    · rw [h3]; exact World.ownsRow.mono (ho.rws.row k h1) hB
  · rcases app_cases (d := (default : RowV)) hi with ⟨h1, h2⟩ | ⟨k, h1, h2, h3⟩ <;> rcases app_cases (d := (default : RowV)) hj with ⟨h4, h5⟩ | ⟨l, h4, h5, h6⟩
    · rw [h2, h5] at e; exact hx.apart i j h1 h4 e
    · rw [h2, h6] at e
      have a1 := (h.rws.row i h1).lt.2
      have a2 := (ho.rws.row l h4).lt.1
      omega
    · rw [h3, h5] at e
      have a1 := (h.rws.row j h4).lt.2
      have a2 := (ho.rws.row k h1).lt.1
      omega
    · rw [h3, h6] at e
      have := ho.rws.apart k l h1 h4 e
      omega
  · rcases app_cases (d := (default : RowV)) hi with ⟨h1, h2⟩ | ⟨k, h1, h2, h3⟩
    · rw [h2]; exact hx.far i h1
    · rw [h3]
      have a2 := (ho.rws.row k h1).lt.1
      omega
  · rcases app_cases (d := (default : RowV)) hi with ⟨h1, h2⟩ | ⟨k, h1, h2, h3⟩
    · rw [h2]
      have a1 := (h.rws.row i h1).lt.2
      omega
    · rw [h3]; exact ho.rws.far k h1
/-- Nothing waits: any block does. -/
theorem OwnC.opened0 {w w' : World} {B g cap bo : Nat} {xs : List CRow} (h : OwnC w B g cap xs) (hb : Below w.heap.size w w') (hbo : bo < B) : Mk w' B g cap xs bo 0 [] := by
  have hg := own_base h.out
  have hB := (h.out.lt g rfl).2
  refine ⟨own_later h.out hb, by rw [List.append_nil]; exact h.rws.later hb, fun i hi => absurd hi (Nat.not_lt_zero _), by have := hb.size; omega, by omega, fun i hi => ?_⟩
  rw [List.append_nil] at hi ⊢
  have a2 := (h.rws.row i hi).lt.1
  omega
theorem Mk.done {w : World} {B g cap bo j : Nat} {xs : List CRow} (h : Mk w B g cap xs bo j []) : OwnC w B g cap xs := ⟨h.out, by have := h.rws; rwa [List.append_nil] at this⟩
theorem Mk.head {w : World} {B g cap bo j : Nat} {xs : List CRow} {r : RowV} {R : List RowV} (h : Mk w B g cap xs bo j (r :: R)) : RowV.own w B r ∧ r.g ≠ g ∧ r.g ≠ bo := by
  have hl : xs.length < (xs.map CRow.row ++ r :: R).length := by simp
  have e : (xs.map CRow.row ++ r :: R).getD xs.length default = r := by
    have := getD_app_r (xs := xs.map CRow.row) (ys := r :: R) (d := default) (i := 0)
    rw [List.length_map] at this
    exact this
  have h1 := h.rws.row _ hl
  have h2 := h.rws.far _ hl
  have h3 := h.far _ hl
  rw [e] at h1 h2 h3
  exact ⟨h1, h2, h3⟩
theorem set_mid {α : Type} (a : List α) (r r' : α) (R : List α) : (a ++ r :: R).set a.length r' = a ++ r' :: R := by simp
/-- The first row that waits holds other numbers. -/
theorem Mk.turned {w w' : World} {B g cap bo j : Nat} {xs : List CRow} {r : RowV} {R : List RowV} {M : List Int} (h : Mk w B g cap xs bo j (r :: R)) (hg : w.grownBy w' (some r.g)) (ho : RowV.own w' B ⟨r.g, r.cap, M⟩) (hM : M.length = r.l.length) : Mk w' B g cap xs bo j (⟨r.g, r.cap, M⟩ :: R) := by
  obtain ⟨h1, h2, h3⟩ := h.head
  have hl : xs.length < (xs.map CRow.row ++ r :: R).length := by simp
  have e : (xs.map CRow.row ++ r :: R).getD xs.length default = r := by
    have := getD_app_r (xs := xs.map CRow.row) (ys := r :: R) (d := default) (i := 0)
    rw [List.length_map] at this
    exact this
  have es := set_mid (xs.map CRow.row) r ⟨r.g, r.cap, M⟩ R
  rw [List.length_map] at es
  have hap : ∀ i, i < (xs.map CRow.row ++ r :: R).length → i ≠ xs.length → ((xs.map CRow.row ++ r :: R).getD i default).g ≠ r.g := fun i hi hne x => hne (h.rws.apart i xs.length hi hl (by rw [e]; exact x))
  refine ⟨h.out.kept hg (Or.inr (fun x => h2 (by injection x with x; exact x.symm))), ?_, fun i hi => ?_, Nat.lt_of_lt_of_le h.lt hg.size, h.ne, fun i hi => ?_⟩
  · rw [← es]
    exact Rws.put (fun i hi hne => (h.rws.row i hi).kept hg (fun x => hap i hi hne (by injection x))) h.rws.apart h.rws.far ho (fun i hi hne => hap i hi hne) h2
  · have hc := h.src i (by simpa using hi)
    have hk := hg.cell hc (by intro x; have x' : bo = r.g := (by simpa using x); exact h3 x'.symm)
    rw [hk]
    cases i with
    | zero => simp [RowV.val, hM]
    | succ i => rfl
  · rw [← es] at hi ⊢
    rw [List.length_set] at hi
    by_cases x : i = xs.length
    · subst x
      rw [getD_put_eq hl]
      exact h3
    · rw [getD_put_ne (fun y => x y.symm)]
      exact h.far i hi
/-- The first row that waits is a carton's. -/
theorem Mk.pushed {w w' : World} {B g cap g3 cap3 bo j : Nat} {xs : List CRow} {r : RowV} {R : List RowV} {t p : Int} (h : Mk w B g cap xs bo j (r :: R))
    (ho : w'.ownsRow B 42 3 (.slice (some ⟨g3, 0, none⟩) (xs.length + 1) cap3) (xs.length + 1) (cellsC xs ++ [.int .i64 t, .int .i64 p, .slice (some ⟨r.g, 0, none⟩) r.l.length r.cap])) (hg : w.grownBy w' (some g)) (hat : some g = some g3 ∨ w.heap.size ≤ g3) :
    Mk w' B g3 cap3 (xs ++ [⟨t, p, r.g, r.cap, r.l⟩]) bo (j + 1) R := by
  have e : (xs ++ [(⟨t, p, r.g, r.cap, r.l⟩ : CRow)]).map CRow.row ++ R = xs.map CRow.row ++ r :: R := by simp [CRow.row]
  have hg3 : ∀ b, b < w.heap.size → b ≠ g → b ≠ g3 := fun b hb hne x => by
    rcases hat with y | y
    · injection y with y; exact hne (x.trans y.symm)
    · omega
  refine ⟨?_, ?_, fun i hi => ?_, Nat.lt_of_lt_of_le h.lt hg.size, hg3 _ h.lt h.ne, ?_⟩
  · rw [List.length_append, cellsC_snoc]
    exact ho
  · rw [e]
    have hk := h.rws.kept hg (fun i hi x => h.rws.far i hi (by injection x))
    exact ⟨hk.row, hk.apart, fun i hi => hg3 _ (h.rws.row i hi).lt.2 (h.rws.far i hi)⟩
  · have hc := h.src (i + 1) (by simp; omega)
    have hk := hg.cell hc (by intro x; have x' : bo = g := (by simpa using x); exact h.ne x')
    rw [show j + 1 + i = j + (i + 1) by omega, hk]
    rfl
  · rw [e]; exact h.far
theorem sortRow_any (B : Nat) (r : RowV) (w : World) (ho : RowV.own w B r) (hn : r.l.length ≤ 12) :
    Calls Tryz.prog 63 #[.slice (some ⟨r.g, 0, none⟩) r.l.length r.cap] w fun e w' => e = .returned (.tuple #[]) ∧ RowV.own w' B ⟨r.g, r.cap, upL r.l⟩ ∧ w.grownBy w' (some r.g) := by
  by_cases h0 : 1 ≤ r.l.length
  · refine (sortO_any B r.g r.l.length r.cap r.l w rfl h0 hn ho).mono ?_
    rintro e w' ⟨rfl, M, hp, hu, hm, hg⟩
    obtain rfl := upL_eq hp hu
    refine ⟨rfl, ?_, hg⟩
    have hl : (upL r.l).length = r.l.length := hp.length_eq
    unfold RowV.own
    dsimp only
    rw [hl]
    exact hm
  · have hz : r.l = [] := List.length_eq_zero_iff.1 (by omega)
    rw [hz]
    refine (sortO_nil _ _ w).mono ?_
    rintro e w' ⟨rfl, rfl⟩
    refine ⟨rfl, ?_, World.grownBy.refl _ _⟩
    have : upL [] = [] := by simp [upL, sortP]
    rw [this]
    have := ho
    unfold RowV.own at this ⊢
    rw [hz] at this
    exact this
theorem cartonsTo_len (r : ReqV) (k : Nat) : (cartonsTo r k).length ≤ 12 * k := by
  induction k with
  | zero => simp [cartonsTo]
  | succ k ih =>
    rw [cartonsTo_step, List.length_append, List.length_map]
    have h1 := (packR_tot r (unitsOfR r (k : Int))).2
    have h2 := unitsOfR_len r (k : Int)
    omega
end Go.Proofs.YtphdeojiehigpaaGreatDoor

/- Cartons that are made beside rows that stay. -/
namespace Go.Proofs.YtphdeojiehigpaaGreatDoor
open Go.RowKit
set_option linter.unusedVariables false

/-- The cartons xs made so far (their row at g), beside the rows P (at bo), all apart. -/
structure Ms (w : World) (B g cap : Nat) (xs : List CRow) (bo : Nat) (P : List RowV) : Prop where
  out : w.ownsRow B 42 3 (.slice (some ⟨g, 0, none⟩) xs.length cap) xs.length (cellsC xs)
  rws : Rws w B g (P ++ xs.map CRow.row)
  src : ∀ i, i < P.length → w.cell? ⟨bo, i, none⟩ = some (P.getD i default).val
  lt : bo < w.heap.size
  ne : bo ≠ g
theorem Ms.later {w w' : World} {B g cap bo : Nat} {xs : List CRow} {P : List RowV} (h : Ms w B g cap xs bo P) (hb : Below w.heap.size w w') : Ms w' B g cap xs bo P :=
  ⟨own_later h.out hb, h.rws.later hb, fun i hi => (hb.cell (p := ⟨bo, i, none⟩) h.lt).trans (h.src i hi), Nat.lt_of_lt_of_le h.lt hb.size, h.ne⟩
theorem Ms.row {w : World} {B g cap bo : Nat} {xs : List CRow} {P : List RowV} (h : Ms w B g cap xs bo P) (i : Nat) (hi : i < P.length) : RowV.own w B (P.getD i default) ∧ (P.getD i default).g ≠ g := by
  have hl : i < (P ++ xs.map CRow.row).length := by rw [List.length_append]; omega
  have h1 := h.rws.row i hl
  have h2 := h.rws.far i hl
  rw [getD_app_l hi] at h1 h2
  exact ⟨h1, h2⟩
theorem OwnC.openedS {w w' : World} {B g cap bo cb : Nat} {xs : List CRow} {P : List RowV} (h : OwnC w B g cap xs) (hb : Below w.heap.size w w') (hB : B ≤ w.heap.size) (ho : Own2 w' w.heap.size bo cb P) : Ms w' B g cap xs bo P := by
  have hbo := own_base ho.out
  have hbl := (ho.out.lt bo rfl).2
  have hg := (h.out.lt g rfl).2
  have hx := h.rws.later hb
  refine ⟨own_later h.out hb, ⟨fun i hi => ?_, fun i j hi hj e => ?_, fun i hi => ?_⟩, fun i hi => (ho.cell i hi).1, hbl, by omega⟩
  · rcases app_cases (d := (default : RowV)) hi with ⟨h1, h2⟩ | ⟨k, h1, h2, h3⟩
    · rw [h2]; exact World.ownsRow.mono (ho.rws.row i h1) hB
    · rw [h3]; exact hx.row k h1
  · rcases app_cases (d := (default : RowV)) hi with ⟨h1, h2⟩ | ⟨k, h1, h2, h3⟩ <;> rcases app_cases (d := (default : RowV)) hj with ⟨h4, h5⟩ | ⟨l, h4, h5, h6⟩
    · rw [h2, h5] at e; exact ho.rws.apart i j h1 h4 e
    · rw [h2, h6] at e
      have a1 := (h.rws.row l h4).lt.2
      have a2 := (ho.rws.row i h1).lt.1
      omega
    · rw [h3, h5] at e
      have a1 := (h.rws.row k h1).lt.2
      have a2 := (ho.rws.row j h4).lt.1
      omega
    · rw [h3, h6] at e
      have := hx.apart k l h1 h4 e
      omega
  · rcases app_cases (d := (default : RowV)) hi with ⟨h1, h2⟩ | ⟨k, h1, h2, h3⟩
    · rw [h2]
      have a2 := (ho.rws.row i h1).lt.1
      omega
    · rw [h3]; exact hx.far k h1
theorem Ms.done {w : World} {B g cap bo : Nat} {xs : List CRow} {P : List RowV} (h : Ms w B g cap xs bo P) : OwnC w B g cap xs := by
  refine ⟨h.out, ⟨fun i hi => ?_, fun i j hi hj e => ?_, fun i hi => ?_⟩⟩
  · have h1 := h.rws.row (P.length + i) (by rw [List.length_append]; omega)
    rwa [getD_app_r] at h1
  · have h1 := h.rws.apart (P.length + i) (P.length + j) (by rw [List.length_append]; omega) (by rw [List.length_append]; omega) (by rw [getD_app_r, getD_app_r]; exact e)
    omega
  · have h1 := h.rws.far (P.length + i) (by rw [List.length_append]; omega)
    rwa [getD_app_r] at h1
/-- One carton more, its units a new row. -/
theorem Ms.pushed {w0 w w' : World} {B g cap g3 cap3 bo : Nat} {xs : List CRow} {P : List RowV} {r : RowV} {t p : Int} (h : Ms w0 B g cap xs bo P) (hb : Below w0.heap.size w0 w) (hB : B ≤ w0.heap.size) (hr : RowV.own w w0.heap.size r)
    (ho : w'.ownsRow B 42 3 (.slice (some ⟨g3, 0, none⟩) (xs.length + 1) cap3) (xs.length + 1) (cellsC xs ++ [.int .i64 t, .int .i64 p, .slice (some ⟨r.g, 0, none⟩) r.l.length r.cap])) (hg : w.grownBy w' (some g)) (hat : some g = some g3 ∨ w.heap.size ≤ g3) :
    Ms w' B g3 cap3 (xs ++ [⟨t, p, r.g, r.cap, r.l⟩]) bo P := by
  have hgl := (h.out.lt g rfl).2
  have hrl := hr.lt
  have h1 := h.later hb
  have hg3 : ∀ b, b < w.heap.size → b ≠ g → b ≠ g3 := fun b hb hne x => by
    rcases hat with y | y
    · injection y with y; exact hne (x.trans y.symm)
    · omega
  have hs : Rws w B g ((P ++ xs.map CRow.row) ++ [r]) := h1.rws.snoc (World.ownsRow.mono hr hB) (fun i hi x => by have := (h.rws.row i hi).lt.2; omega) (by omega)
  have e : P ++ (xs ++ [(⟨t, p, r.g, r.cap, r.l⟩ : CRow)]).map CRow.row = (P ++ xs.map CRow.row) ++ [r] := by simp [CRow.row]
  have hk := hs.kept hg (fun i hi x => hs.far i hi (by injection x))
  refine ⟨?_, ?_, fun i hi => ?_, Nat.lt_of_lt_of_le h1.lt hg.size, hg3 _ h1.lt h1.ne⟩
  · rw [List.length_append, cellsC_snoc]
    exact ho
  · rw [e]
    exact ⟨hk.row, hk.apart, fun i hi => hg3 _ (hs.row i hi).lt.2 (hs.far i hi)⟩
  · exact (hg.cell (h1.src i hi) (by intro x; have x' : bo = g := (by simpa using x); exact h.ne x')).trans rfl
theorem upL_at (c : List Int) (u : Nat) (hu : u < c.length) : ∃ p : Nat, p < c.length ∧ (sortP c false (List.range c.length))[u]? = some p ∧ (upL c).take (u + 1) = (upL c).take u ++ [c.getD p 0] := by
  have hp := sortP_perm c false (List.range c.length)
  have hl : (sortP c false (List.range c.length)).length = c.length := by rw [hp.length_eq, List.length_range]
  have hu2 : u < (sortP c false (List.range c.length)).length := by omega
  refine ⟨(sortP c false (List.range c.length))[u], ?_, List.getElem?_eq_getElem hu2, ?_⟩
  · have := hp.subset (List.getElem_mem hu2)
    exact List.mem_range.1 this
  · unfold upL
    rw [List.take_succ_eq_append_getElem (by simpa using hu2)]
    simp
end Go.Proofs.YtphdeojiehigpaaGreatDoor
