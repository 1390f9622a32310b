/- The laws' marks over pairs and over rows of rows. -/
import Derived.Test.YtcblpoeeembniaaToS
import Derived.Test.YtcblpoeeembniaaIntMarks
import Derived.Test.YtcblpoeeembniaaIntSS
namespace Go.Proofs.Ytcblpoeeembniaa
open Go.RowKit
set_option linter.unusedVariables false

/-- Each row with its marks. -/
def markTo (k0 : Nat) : List RowV → List RowV
 | [] => []
 | r :: xs => ⟨r.g, r.cap, marksI k0 r.l.length⟩ :: markTo (k0 + r.l.length) xs
theorem marksI_len (k0 n : Nat) : (marksI k0 n).length = n := by simp [marksI]
theorem markTo_len : ∀ (xs : List RowV) (k0 : Nat), (markTo k0 xs).length = xs.length
 | [], _ => rfl
 | r :: xs, k0 => by simp [markTo, markTo_len xs]
def totR (xs : List RowV) : Nat := (xs.map fun r => r.l.length).sum
theorem totR_step (xs : List RowV) (k : Nat) (h : k < xs.length) : totR (xs.take (k + 1)) = totR (xs.take k) + (xs.getD k default).l.length := by
 unfold totR
 rw [List.take_succ_eq_append_getElem h, List.map_append, List.sum_append]
 congr 1
 simp [h]
theorem totR_le (xs : List RowV) (k : Nat) : totR (xs.take k) ≤ totR xs := by
 unfold totR
 conv => rhs; rw [← List.take_append_drop k xs, List.map_append, List.sum_append]
 omega
/-- Marked up to place k. -/
def markK (k0 : Nat) (xs : List RowV) (k : Nat) : List RowV := markTo k0 (xs.take k) ++ xs.drop k
theorem markK_step : ∀ (xs : List RowV) (k k0 : Nat), k < xs.length → markK k0 xs (k + 1) = (markK k0 xs k).set k ⟨(xs.getD k default).g, (xs.getD k default).cap, marksI (k0 + totR (xs.take k)) (xs.getD k default).l.length⟩
 | [], k, _, h => absurd h (Nat.not_lt_zero _)
 | r :: xs, 0, k0, h => by simp [markK, markTo, totR]
 | r :: xs, k + 1, k0, h => by
  have ih := markK_step xs k (k0 + r.l.length) (by simpa using h)
  unfold markK at ih ⊢
  have e : k0 + totR ((r :: xs).take (k + 1)) = k0 + r.l.length + totR (xs.take k) := by simp [totR]; omega
  rw [e]
  simp only [List.take_succ_cons, markTo, List.drop_succ_cons, List.cons_append, List.set_cons_succ, List.getD_cons_succ]
  rw [ih]
theorem markK_len (k0 : Nat) (xs : List RowV) (k : Nat) (h : k ≤ xs.length) : (markK k0 xs k).length = xs.length := by
 simp [markK, markTo_len]
 omega
theorem markK_get (k0 : Nat) (xs : List RowV) (k : Nat) (h : k < xs.length) : (markK k0 xs k).getD k default = xs.getD k default := by
 have hl : (markTo k0 (xs.take k)).length = k := by rw [markTo_len, List.length_take]; omega
 simp only [markK, List.getD_eq_getElem?_getD]
 rw [List.getElem?_append_right (by omega), hl, Nat.sub_self, List.getElem?_drop, Nat.add_zero]
theorem marked_get : ∀ (xs : List RowV) (k k0 : Nat), k < xs.length → (markTo k0 xs).getD k default = ⟨(xs.getD k default).g, (xs.getD k default).cap, marksI (k0 + totR (xs.take k)) (xs.getD k default).l.length⟩
 | [], k, _, h => absurd h (Nat.not_lt_zero _)
 | r :: xs, 0, k0, h => by simp [markTo, totR]
 | r :: xs, k + 1, k0, h => by
  have ih := marked_get xs k (k0 + r.l.length) (by simpa using h)
  have e : k0 + totR ((r :: xs).take (k + 1)) = k0 + r.l.length + totR (xs.take k) := by simp [totR]; omega
  rw [e]
  simp only [markTo, List.getD_cons_succ]
  exact ih
/-- One row's numbers are others. -/
theorem Own2.reset {w w3 : World} {B g cap k : Nat} {xs : List RowV} {r : RowV} (h : Own2 w B g cap xs) (hk : k < xs.length) (hg : w.grownBy w3 (some (xs.getD k default).g)) (ho : RowV.own w3 B r) (h1 : r.g = (xs.getD k default).g) (h2 : r.val = (xs.getD k default).val) : Own2 w3 B g cap (xs.set k r) := by
 have e : (xs.set k r).map RowV.val = xs.map RowV.val := by
  rw [List.map_set, h2]
  refine List.ext_getElem? fun i => ?_
  by_cases hi : i = k
  · subst hi
    rw [List.getElem?_set_self (by simpa using hk)]
    simp [hk]
  · rw [List.getElem?_set_ne (by omega)]
 refine ⟨?_, ?_⟩
 · rw [List.length_set, e]
   exact h.out.kept hg (Or.inr (fun e => h.rws.far k hk (by injection e with e; exact e.symm)))
 · refine Rws.put (fun i hi hik => (h.rws.row i hi).kept hg (fun e => hik (h.rws.apart i k hi hk (by injection e)))) h.rws.apart h.rws.far ho (fun i hi hik e => hik (h.rws.apart i k hi hk (e.trans h1))) (by rw [h1]; exact h.rws.far k hk)
end Go.Proofs.Ytcblpoeeembniaa
