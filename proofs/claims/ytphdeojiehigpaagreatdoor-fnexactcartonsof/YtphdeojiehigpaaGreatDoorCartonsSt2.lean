/- Cartons that are made beside rows that stay. -/
import Derived.Test.YtphdeojiehigpaaGreatDoorCartonsSt
namespace Go.Proofs.YtphdeojiehigpaaGreatDoor
open Go.RowKit
set_option linter.unusedVariables false

/-- The cartons xs made so far (their row at g), beside the rows P (at bo), all apart. -/
structure Ms (w : World) (B g cap : Nat) (xs : List CRow) (bo : Nat) (P : List RowV) : Prop where
  out : w.ownsRow B 42 3 (.slice (some ⟨g, 0, none⟩) xs.length cap) xs.length (cellsC xs)
  rws : Rws w B g (P ++ xs.map CRow.row)
  src : ∀ i, i < P.length → w.cell? ⟨bo, i, none⟩ = some (P.getD i default).val
  lt : bo < w.heap.size
  ne : bo ≠ g
theorem Ms.later {w w' : World} {B g cap bo : Nat} {xs : List CRow} {P : List RowV} (h : Ms w B g cap xs bo P) (hb : Below w.heap.size w w') : Ms w' B g cap xs bo P :=
  ⟨own_later h.out hb, h.rws.later hb, fun i hi => (hb.cell (p := ⟨bo, i, none⟩) h.lt).trans (h.src i hi), Nat.lt_of_lt_of_le h.lt hb.size, h.ne⟩
theorem Ms.row {w : World} {B g cap bo : Nat} {xs : List CRow} {P : List RowV} (h : Ms w B g cap xs bo P) (i : Nat) (hi : i < P.length) : RowV.own w B (P.getD i default) ∧ (P.getD i default).g ≠ g := by
  have hl : i < (P ++ xs.map CRow.row).length := by rw [List.length_append]; omega
  have h1 := h.rws.row i hl
  have h2 := h.rws.far i hl
  rw [getD_app_l hi] at h1 h2
  exact ⟨h1, h2⟩
theorem OwnC.openedS {w w' : World} {B g cap bo cb : Nat} {xs : List CRow} {P : List RowV} (h : OwnC w B g cap xs) (hb : Below w.heap.size w w') (hB : B ≤ w.heap.size) (ho : Own2 w' w.heap.size bo cb P) : Ms w' B g cap xs bo P := by
  have hbo := own_base ho.out
  have hbl := (ho.out.lt bo rfl).2
  have hg := (h.out.lt g rfl).2
  have hx := h.rws.later hb
  refine ⟨own_later h.out hb, ⟨fun i hi => ?_, fun i j hi hj e => ?_, fun i hi => ?_⟩, fun i hi => (ho.cell i hi).1, hbl, by omega⟩
  · rcases app_cases (d := (default : RowV)) hi with ⟨h1, h2⟩ | ⟨k, h1, h2, h3⟩
    · rw [h2]; exact World.ownsRow.mono (ho.rws.row i h1) hB
    · rw [h3]; exact hx.row k h1
  · rcases app_cases (d := (default : RowV)) hi with ⟨h1, h2⟩ | ⟨k, h1, h2, h3⟩ <;> rcases app_cases (d := (default : RowV)) hj with ⟨h4, h5⟩ | ⟨l, h4, h5, h6⟩
    · rw [h2, h5] at e; exact ho.rws.apart i j h1 h4 e
    · rw [h2, h6] at e
      have a1 := (h.rws.row l h4).lt.2
      have a2 := (ho.rws.row i h1).lt.1
      omega
    · rw [h3, h5] at e
      have a1 := (h.rws.row k h1).lt.2
      have a2 := (ho.rws.row j h4).lt.1
      omega
    · rw [h3, h6] at e
      have := hx.apart k l h1 h4 e
      omega
  · rcases app_cases (d := (default : RowV)) hi with ⟨h1, h2⟩ | ⟨k, h1, h2, h3⟩
    · rw [h2]
      have a2 := (ho.rws.row i h1).lt.1
      omega
    · rw [h3]; exact hx.far k h1
theorem Ms.done {w : World} {B g cap bo : Nat} {xs : List CRow} {P : List RowV} (h : Ms w B g cap xs bo P) : OwnC w B g cap xs := by
  refine ⟨h.out, ⟨fun i hi => ?_, fun i j hi hj e => ?_, fun i hi => ?_⟩⟩
  · have h1 := h.rws.row (P.length + i) (by rw [List.length_append]; omega)
    rwa [getD_app_r] at h1
  · have h1 := h.rws.apart (P.length + i) (P.length + j) (by rw [List.length_append]; omega) (by rw [List.length_append]; omega) (by rw [getD_app_r, getD_app_r]; exact e)
    omega
  · have h1 := h.rws.far (P.length + i) (by rw [List.length_append]; omega)
    rwa [getD_app_r] at h1
/-- One carton more, its units a new row. -/
theorem Ms.pushed {w0 w w' : World} {B g cap g3 cap3 bo : Nat} {xs : List CRow} {P : List RowV} {r : RowV} {t p : Int} (h : Ms w0 B g cap xs bo P) (hb : Below w0.heap.size w0 w) (hB : B ≤ w0.heap.size) (hr : RowV.own w w0.heap.size r)
    (ho : w'.ownsRow B 42 3 (.slice (some ⟨g3, 0, none⟩) (xs.length + 1) cap3) (xs.length + 1) (cellsC xs ++ [.int .i64 t, .int .i64 p, .slice (some ⟨r.g, 0, none⟩) r.l.length r.cap])) (hg : w.grownBy w' (some g)) (hat : some g = some g3 ∨ w.heap.size ≤ g3) :
    Ms w' B g3 cap3 (xs ++ [⟨t, p, r.g, r.cap, r.l⟩]) bo P := by
  have hgl := (h.out.lt g rfl).2
  have hrl := hr.lt
  have h1 := h.later hb
  have hg3 : ∀ b, b < w.heap.size → b ≠ g → b ≠ g3 := fun b hb hne x => by
    rcases hat with y | y
    · injection y with y; exact hne (x.trans y.symm)
    · omega
  have hs : Rws w B g ((P ++ xs.map CRow.row) ++ [r]) := h1.rws.snoc (World.ownsRow.mono hr hB) (fun i hi x => by have := (h.rws.row i hi).lt.2; omega) (by omega)
  have e : P ++ (xs ++ [(⟨t, p, r.g, r.cap, r.l⟩ : CRow)]).map CRow.row = (P ++ xs.map CRow.row) ++ [r] := by simp [CRow.row]
  have hk := hs.kept hg (fun i hi x => hs.far i hi (by injection x))
  refine ⟨?_, ?_, fun i hi => ?_, Nat.lt_of_lt_of_le h1.lt hg.size, hg3 _ h1.lt h1.ne⟩
  · rw [List.length_append, cellsC_snoc]
    exact ho
  · rw [e]
    exact ⟨hk.row, hk.apart, fun i hi => hg3 _ (hs.row i hi).lt.2 (hs.far i hi)⟩
  · exact (hg.cell (h1.src i hi) (by intro x; have x' : bo = g := (by simpa using x); exact h.ne x')).trans rfl
theorem upL_at (c : List Int) (u : Nat) (hu : u < c.length) : ∃ p : Nat, p < c.length ∧ (sortP c false (List.range c.length))[u]? = some p ∧ (upL c).take (u + 1) = (upL c).take u ++ [c.getD p 0] := by
  have hp := sortP_perm c false (List.range c.length)
  have hl : (sortP c false (List.range c.length)).length = c.length := by rw [hp.length_eq, List.length_range]
  have hu2 : u < (sortP c false (List.range c.length)).length := by omega
  refine ⟨(sortP c false (List.range c.length))[u], ?_, List.getElem?_eq_getElem hu2, ?_⟩
  · have := hp.subset (List.getElem_mem hu2)
    exact List.mem_range.1 this
  · unfold upL
    rw [List.take_succ_eq_append_getElem (by simpa using hu2)]
    simp
end Go.Proofs.YtphdeojiehigpaaGreatDoor
