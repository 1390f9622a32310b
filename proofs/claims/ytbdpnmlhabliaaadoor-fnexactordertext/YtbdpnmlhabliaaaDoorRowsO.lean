/- Rows of words and of rows of numbers that grow beside one another. -/
import Derived.Test.YtbdpnmlhabliaaaDoorIntSS
import Derived.Test.YtbdpnmlhabliaaaDoorSpecPut
namespace Go.Proofs.YtbdpnmlhabliaaaDoor
open Go.RowKit
set_option linter.unusedVariables false

theorem own_ne {w : World} {B B' e e' s s' g g' n n' c c' : Nat} {xs xs' : List Value} (h : w.ownsRow B e s (.slice (some ⟨g, 0, none⟩) n c) n xs) (h' : w.ownsRow B' e' s' (.slice (some ⟨g', 0, none⟩) n' c') n' xs') (he : e ≠ e') : g ≠ g' := by
  rintro rfl
  obtain ⟨_, ⟨h1, _⟩ | ⟨g1, c1, cur, h1, _, h2, _⟩⟩ := h
  · cases h1
  obtain ⟨_, ⟨h3, _⟩ | ⟨g3, c3, cur3, h3, _, h4, _⟩⟩ := h'
  · cases h3
  cases h1
  cases h3
  rw [h2] at h4
  cases h4
  exact he rfl
theorem own_grew {w1 : World} {B e sz n : Nat} {v' : Value} {xs : List Value} (h1 : w1.ownsRow B e sz v' (n + 1) xs) : ∃ g' cap', v' = .slice (some ⟨g', 0, none⟩) (n + 1) cap' := by
  obtain ⟨_, ⟨_, h⟩ | ⟨g, cap, cur, h, _⟩⟩ := h1
  · omega
  · exact ⟨g, cap, h⟩
def wordV (p : Nat × List Int) : Value := .string ⟨(kindWord p.1).toArray⟩
def WordsO (w : World) (B g cap : Nat) (ls : List (Nat × List Int)) : Prop :=
  w.ownsRow B 9 1 (.slice (some ⟨g, 0, none⟩) ls.length cap) ls.length (ls.map wordV)
structure NumsO (w : World) (B g cap : Nat) (xs : List RowV) : Prop where
  out : w.ownsRow B 59 1 (.slice (some ⟨g, 0, none⟩) xs.length cap) xs.length (xs.map RowV.val)
  rows : ∀ x ∈ xs, RowV.own w B x
theorem NumsO.later {w w' : World} {B g cap : Nat} {xs : List RowV} (h : NumsO w B g cap xs) (hb : Below w.heap.size w w') : NumsO w' B g cap xs :=
  ⟨own_later h.out hb, fun x hx => (h.rows x hx).later hb⟩
/-- Another row grows, of another kind. -/
theorem NumsO.kept {w w' : World} {B g cap gw n cw e : Nat} {xs : List RowV} {ys : List Value} (h : NumsO w B g cap xs) (hw : w.ownsRow B e 1 (.slice (some ⟨gw, 0, none⟩) n cw) n ys) (h1 : e ≠ 59) (h2 : e ≠ 3) (hg : w.grownBy w' (some gw)) : NumsO w' B g cap xs :=
  ⟨h.out.kept hg (Or.inr fun e' => own_ne hw h.out h1 (by injection e' with e'; exact e'.symm)), fun x hx => (h.rows x hx).kept hg (fun e' => own_ne hw (h.rows x hx) h2 (by injection e' with e'; exact e'.symm))⟩
/-- A row behind all: it lay there already. -/
theorem NumsO.pushed {w w' : World} {B g cap g' cap' : Nat} {xs : List RowV} {r : RowV} (h : NumsO w B g cap xs) (hr : RowV.own w B r)
    (ho : w'.ownsRow B 59 1 (.slice (some ⟨g', 0, none⟩) (xs.length + 1) cap') (xs.length + 1) (xs.map RowV.val ++ [r.val])) (hg : w.grownBy w' (some g)) : NumsO w' B g' cap' (xs ++ [r]) := by
  have hk : ∀ x, RowV.own w B x → RowV.own w' B x := fun x hx => hx.kept hg (fun e' => own_ne h.out hx (by decide) (by injection e' with e'; exact e'.symm))
  refine ⟨?_, fun x hx => ?_⟩
  · rw [List.length_append, List.map_append]
    exact ho
  · rcases List.mem_append.1 hx with hx | hx
    · exact hk x (h.rows x hx)
    · rw [List.mem_singleton.1 hx]
      exact hk r hr
theorem WordsO.later {w w' : World} {B g cap : Nat} {ls : List (Nat × List Int)} (h : WordsO w B g cap ls) (hb : Below w.heap.size w w') : WordsO w' B g cap ls := own_later h hb
theorem WordsO.kept {w w' : World} {B g cap gn n cn e : Nat} {ls : List (Nat × List Int)} {ys : List Value} (h : WordsO w B g cap ls) (hn : w.ownsRow B e 1 (.slice (some ⟨gn, 0, none⟩) n cn) n ys) (h1 : e ≠ 9) (hg : w.grownBy w' (some gn)) : WordsO w' B g cap ls :=
  World.ownsRow.kept h hg (Or.inr fun e' => own_ne hn h h1 (by injection e' with e'; exact e'.symm))
theorem WordsO.read {w : World} {B g cap : Nat} {ls : List (Nat × List Int)} (h : WordsO w B g cap ls) (i : Nat) (hi : i < ls.length) : w.cell? ⟨g, i, none⟩ = some (wordV (ls.getD i default)) := by
  refine (h.cellAt i (by omega)).trans ?_
  simp [List.getD_eq_getElem?_getD, hi]
theorem NumsO.read {w : World} {B g cap : Nat} {xs : List RowV} (h : NumsO w B g cap xs) (i : Nat) (hi : i < xs.length) : w.cell? ⟨g, i, none⟩ = some (xs.getD i default).val ∧ RowV.own w B (xs.getD i default) := by
  refine ⟨(h.out.cellAt i (by omega)).trans ?_, h.rows _ ?_⟩
  · simp [List.getD_eq_getElem?_getD, hi]
  · rw [List.getD_eq_getElem?_getD, List.getElem?_eq_getElem hi]
    exact List.getElem_mem _
theorem grown_below {w W w1 : World} {B g : Nat} (hb : Below B w W) (hg : W.grownBy w1 (some g)) (hB : B ≤ W.heap.size) (hgB : B ≤ g) : Below B w w1 :=
  hb.grown hg hB (by intro j hj; cases hj; exact hgB)
theorem Blk.grew {w w' : World} {b g : Nat} {cs : List Value} (h : Blk w b cs) (hb : b < w.heap.size) (hg : w.grownBy w' (some g)) (hne : b ≠ g) : Blk w' b cs := fun j hj => by
  have e := hg.block b hb (fun e => hne (by injection e))
  exact ⟨(World.cell?_of_block (a := ⟨b, j, none⟩) e).trans (h j hj).1, (World.frozen?_of_block (a := ⟨b, j, none⟩) e).trans (h j hj).2⟩
theorem lit_row {w : World} {B : Nat} (ns : List Int) (hB : B ≤ w.heap.size) (hl : ns.length ≤ 100) : RowV.own (w.alloc (.cells (ns.map (Value.int .i64)).toArray 3)) B ⟨w.heap.size, ns.length, ns⟩ := by
  unfold RowV.own
  have := World.ownsRow_lit (base := B) (e := 3) (size := 1) w (ns.map (Value.int .i64)).toArray ns.length hB (by unfold maxLen; omega) (by simp)
  simpa using this
end Go.Proofs.YtbdpnmlhabliaaaDoor
