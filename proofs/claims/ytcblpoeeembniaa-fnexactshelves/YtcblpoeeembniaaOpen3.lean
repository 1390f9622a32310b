/- What the row hands in, opened: a slice of pairs, a slice of slices of numbers. -/
import Derived.Test.YtcblpoeeembniaaStructs
import Derived.OpenShut
import Derived.ChangeOld
import Derived.Deep.Slices
namespace Go.Proofs.Ytcblpoeeembniaa
open Go.RowKit Go.ChangeShapes Go.WideShapes
set_option linter.unusedVariables false
set_option maxRecDepth 100000

section
variable {H : Type} {enc : TypeId × Value → H} {P : Program} {w : World} {base : Nat} {spare : Nat → Bool} {held : Bool}
theorem part_cut {cs : List Value} {c : Value} {off : Nat} (h : cs[off]? = some c) : (cs.drop off).take 1 = [c] := by
 obtain ⟨hl, rfl⟩ := List.getElem?_eq_some_iff.1 h
 show List.take (0 + 1) _ = _
 rw [List.drop_eq_getElem_cons hl, List.take_succ_cons, List.take_zero]
theorem part_int {fs : Array Field} {n : Nat} {cs : List Value} {xs : List (DataW H × List MemPlace)} (hf : ∀ (i : Nat) (f : Field), fs[i]? = some f → DataW.trod enc P w base spare held n f.type ((cs.drop f.offset).take (P.cellsOf f.type)) = xs[i]?)
 (hx : xs.length = fs.size) (i : Nat) (f : Field) (h : fs[i]? = some f) (hc : P.cellsOf f.type = 1) (ht : P.underlying f.type = some (.int .i64)) {c : Value} (hg : cs[f.offset]? = some c) : ∃ n : Int, c = .int .i64 n ∧ (Lit.int .i64 n).wf = true := by
 have h1 := hf i f h
 rw [hc, part_cut hg] at h1
 have hi : i < xs.length := by rw [hx]; exact (Array.getElem?_eq_some_iff.1 h).1
 rw [List.getElem?_eq_getElem hi] at h1
 obtain ⟨n, e, _, hw⟩ := DataW.trod_int ht h1
 simp only [List.cons.injEq, and_true] at e
 exact ⟨n, e, hw⟩
/-- A slice of rows, each with a word of its own. -/
theorem open_list {α : Type} [Inhabited α] {cells : α → List Value} {G : α → Prop} {k : Nat} {t e : TypeId} (ht : P.underlying t = some (.slice e)) (hk : P.cellsOf e = k) (hkp : 0 < k)
 (hlen : ∀ q, (cells q).length = k)
 (hel : ∀ (n : Nat) (cs : List Value) (x : DataW H × List MemPlace), DataW.trod enc P w base spare held n e cs = some x → ∃ q : α, cs = cells q ∧ G q) {fuel : Nat} {c : Value} {x : DataW H × List MemPlace}
 (h : DataW.trod enc P w base spare held fuel t [c] = some x) : ∃ (a : Option Addr) (cap : Nat) (xs : List α), c = .slice a xs.length cap ∧ xs.length ≤ maxLen ∧ RdR cells k w a xs.length xs ∧ ∀ q ∈ xs, G q := by
 rcases Deep.open_slice ht h with ⟨e0, _⟩ | ⟨a, len, cap, m, n, D, Pl, e0, hb, hl, hm, hmm, _, hx⟩
 · simp only [List.cons.injEq, and_true] at e0
   exact ⟨none, 0, [], e0, Nat.zero_le _, ⟨rfl, fun i hi => absurd hi (Nat.not_lt_zero _)⟩, fun q hq => by cases hq⟩
 · simp only [List.cons.injEq, and_true] at e0
   have hlm : len ≤ m := by rw [hmm]; split <;> omega
   obtain ⟨q, hq0⟩ := Deep.choose_lt (n := len) (p := fun i (q : α) => w.cells? base (a.add (i * k)) k = some (cells q) ∧ G q) (fun i hi => by
    obtain ⟨cs', h1, h2⟩ := hx i (by omega)
    obtain ⟨q, rfl, hg⟩ := hel _ _ _ h2
    rw [hk] at h1
    exact ⟨q, h1, hg⟩)
   have hq := fun i hi => (hq0 i hi).1
   have hlq : ((List.range len).map q).length = len := by simp
   refine ⟨some a, cap, (List.range len).map q, by rw [hlq]; exact e0, by rw [hlq]; omega, ⟨by rw [hlq], fun i hi => ?_⟩, fun y hy => ?_⟩
   · rw [hlq] at hi
     obtain ⟨_, hl1, hcell⟩ := World.cells?_some (hq i hi)
     have e1 : ((List.range len).map q).getD i default = q i := by simp [List.getD_eq_getElem?_getD, hi]
     rw [e1]
     have hs : a.spot = none := by
      have h0 := (World.cells?_some (hq 0 (by omega))).2.2 0 hkp
      rw [List.getElem?_eq_getElem (by rw [hlen]; exact hkp)] at h0
      simpa [Addr.add] using World.cell?_spot h0
     obtain ⟨b, off, spot⟩ := a
     simp only at hs
     subst hs
     refine ⟨b, off, rfl, fun j hj => ?_⟩
     have := hcell j hj
     rw [Deep.add_add] at this
     rw [← this]
     congr 1
     unfold Addr.add
     split
     · next h0 => simp only [Addr.mk.injEq, true_and, and_true]; omega
     · simp only [Addr.mk.injEq, true_and, and_true]; omega
   · rw [List.mem_map] at hy
     obtain ⟨i, hi, rfl⟩ := hy
     exact (hq0 i (List.mem_range.1 hi)).2
end
end Go.Proofs.Ytcblpoeeembniaa
