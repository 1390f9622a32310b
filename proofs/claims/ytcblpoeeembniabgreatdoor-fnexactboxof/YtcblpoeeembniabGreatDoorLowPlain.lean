/- Lower bounds, plain. -/
import Derived.Test.YtcblpoeeembniabGreatDoorPackPlain
import Derived.Test.YtcblpoeeembniabGreatDoorPackSt
namespace Go.Proofs.YtcblpoeeembniabGreatDoor
open Go Go.RowKit
set_option linter.unusedVariables false

theorem Rd.atP {w : World} {b n : Nat} {us : List Int} (h : Rd w (some ⟨b, 0, none⟩) n us) (i : Nat) (hi : i < n) : w.cell? ⟨b, i, none⟩ = some (.int .i64 (us.getD i 0)) := by
 obtain ⟨b', off, e, hc⟩ := h.2 i hi
 injection e with e
 injection e with e1 e2
 subst e1 e2
 rwa [Nat.zero_add] at hc
/-- The master type of an order of which nothing is wrong. -/
theorem master_mem {r : ReqV} (h : classI r = 0) : masterV r ∈ r.types ∧ (masterV r).ok = true := by
 obtain ⟨h1, h2, _⟩ := class_zero h
 have hm : masterB r = true := by
  unfold namesB at h2
  simp only [Bool.and_eq_true] at h2
  exact h2.1.1.1
 cases hf : r.types.find? (isId r.master) with
 | none => rw [(master_none hf).2] at hm; cases hm
 | some q =>
  rw [(master_hit hf).1]
  have hq := List.mem_of_find?_eq_some hf
  refine ⟨hq, ?_⟩
  simp only [boundsB, Bool.and_eq_true] at h1
  have h5 := h1.1.1.2
  simp only [typesB, Bool.and_eq_true, List.all_eq_true] at h5
  exact h5.2 q hq
def mostV (r : ReqV) : BulkV := ⟨vol (masterV r).wd (masterV r).ht (masterV r).dp, (masterV r).gram⟩
theorem vol_pos {x y z : Int} (hx : 1 ≤ x ∧ x ≤ 2000) (hy : 1 ≤ y ∧ y ≤ 2000) (hz : 1 ≤ z ∧ z ≤ 2000) : 1 ≤ vol x y z := by
 rw [vol_in (inB_iff.2 ⟨by omega, hx.2⟩) (inB_iff.2 ⟨by omega, hy.2⟩) (inB_iff.2 ⟨by omega, hz.2⟩)]
 have h1 : 0 < x * y := Int.mul_pos (by omega) (by omega)
 have h2 : 0 < x * y * z := Int.mul_pos h1 (by omega)
 omega
theorem most_pos {r : ReqV} (h : classI r = 0) : 1 ≤ (mostV r).v ∧ (mostV r).v ≤ 8000000000 ∧ 1 ≤ (mostV r).g ∧ (mostV r).g ≤ 100000 := by
 have h1 := (master_mem h).2
 simp only [TypeV.ok, typeB, sidesB, Bool.and_eq_true, inB_iff] at h1
 have h2 := vol_bd (masterV r).wd (masterV r).ht (masterV r).dp
 have h3 := vol_pos (x := (masterV r).wd) (y := (masterV r).ht) (z := (masterV r).dp) (by omega) (by omega) (by omega)
 refine ⟨h3, h2.2, ?_, ?_⟩ <;> show _ ≤ _ <;> simp only [mostV] <;> omega
/-- Rounded up. -/
def ceilI (n b : Int) : Int := (n + b - 1) / b
def lowVol (r : ReqV) (us : List Int) : Int := if classI r = 0 then ceilI (volOf (itemsR r) us) (mostV r).v else 0
def lowGram (r : ReqV) (us : List Int) : Int := if classI r = 0 then ceilI (gramOf (itemsR r) us) (mostV r).g else 0
/-- How many are more than half. -/
def wideB (r : ReqV) (u : Int) : Bool := decide (2 * volAt (itemsR r) u > (mostV r).v)
def heavyB (r : ReqV) (u : Int) : Bool := decide (2 * gramAt (itemsR r) u > (mostV r).g)
def cntTo (p : Int → Bool) (us : List Int) (k : Nat) : Nat := (us.take k).countP p
theorem cntTo_step {p : Int → Bool} {us : List Int} {k : Nat} (h : k < us.length) : cntTo p us (k + 1) = cntTo p us k + (if p (us.getD k 0) = true then 1 else 0) := by
 have e : us.getD k 0 = us[k] := by simp [List.getD_eq_getElem?_getD, h]
 rw [cntTo, List.take_succ_eq_append_getElem h, List.countP_append, e]
 simp [cntTo, List.countP_cons, List.countP_nil]
theorem cntTo_le (p : Int → Bool) (us : List Int) (k : Nat) : cntTo p us k ≤ k := Nat.le_trans List.countP_le_length (by rw [List.length_take]; omega)
def greatN (r : ReqV) (us : List Int) : Nat := max (us.countP (wideB r)) (us.countP (heavyB r))
def lowGreat (r : ReqV) (us : List Int) : Int := if classI r = 0 then (greatN r (knownL (itemsR r) us) : Int) else 0
theorem count_known {xs : List ItemV} {p : Int → Bool} (hp : ∀ u, p u = true → knownB xs u = true) (us : List Int) : (knownL xs us).countP p = us.countP p := by
 unfold knownL
 rw [List.countP_filter]
 congr 1
 funext u
 cases h : p u
 · simp
 · simp [hp u h]
theorem ret_intF {a b : Int} (h : a = b) : Ending.returned (.int .i64 a) = .returned (.int .i64 b) := by rw [h]
def lowR (r : ReqV) (us : List Int) : Int := max (lowVol r us) (max (lowGram r us) (lowGreat r us))
end Go.Proofs.YtcblpoeeembniabGreatDoor
