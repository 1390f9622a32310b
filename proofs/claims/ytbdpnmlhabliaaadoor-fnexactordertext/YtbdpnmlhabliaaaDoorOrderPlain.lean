/- The text of an order, plainly: lines, words, numbers. -/
import Derived.Test.YtbdpnmlhabliaaaDoorReq
import Derived.Test.YtbdpnmlhabliaaaDoorVol
import Derived.Lib.Join
import Derived.Lib.ItoaNum
namespace Go.Proofs.YtbdpnmlhabliaaaDoor
open Go.RowKit
set_option linter.unusedVariables false

def kindWord : Nat → List UInt8
  | 0 => [119, 97, 121]
  | 1 => [112, 97, 108, 108, 101, 116]
  | 2 => [99, 108, 97, 115, 115, 101, 115]
  | 3 => [119, 105, 116, 104]
  | 4 => [116, 121, 112, 101]
  | 5 => [109, 97, 115, 116, 101, 114]
  | 6 => [105, 116, 101, 109]
  | _ => []
def wFirst : List UInt8 := [102, 105, 114, 115, 116]
def wNext : List UInt8 := [110, 101, 120, 116]
/-- A number of a line, as a word; whether it may stand there. -/
def numW (k : Nat) (n : Int) : List UInt8 := if k = 0 then (if n = 0 then wFirst else if n = 1 then wNext else []) else Lib.itoa n
def numB (k : Nat) (n : Int) : Bool := if k = 0 then inB n 0 1 else inB n 0 999999
def tailT (k : Nat) (ns : List Int) : List UInt8 := ns.flatMap fun n => 32 :: numW k n
def lineT (k : Nat) (ns : List Int) : List UInt8 := kindWord k ++ tailT k ns ++ [10]
def lineB (k : Nat) (ns : List Int) : Bool := ns.all (numB k)
def ItemV.nums (q : ItemV) : List Int := [q.id, q.wd, q.ht, q.dp, q.gram, q.cls, q.cnt]
def TypeV.nums (q : TypeV) : List Int := [q.id, q.wd, q.ht, q.dp, q.tare, q.gram, q.cost]
def PairV.nums (q : PairV) : List Int := [q.a, q.b]
def PalletV.nums (q : PalletV) : List Int := [q.wd, q.dp, q.ht, q.gram]
def rowsOf (r : ReqV) : List (Nat × List Int) :=
  [(1, r.pal.nums), (2, [r.classes])] ++ r.pairs.map (fun q => (3, q.nums)) ++ r.types.map (fun q => (4, q.nums)) ++ [(5, [r.master])] ++ r.items.map (fun q => (6, q.nums))
def linesR (r : ReqV) : List (Nat × List Int) := (0, [r.way]) :: rowsOf r
def textOf (ls : List (Nat × List Int)) : List UInt8 := ls.flatMap fun p => lineT p.1 p.2
def okOf (ls : List (Nat × List Int)) : Bool := ls.all fun p => lineB p.1 p.2
def orderT (r : ReqV) : List UInt8 := if okOf (linesR r) then textOf (linesR r) else []

theorem okOf_snoc (ls : List (Nat × List Int)) (p : Nat × List Int) : okOf (ls ++ [p]) = (okOf ls && lineB p.1 p.2) := by simp [okOf]
theorem textOf_snoc (ls : List (Nat × List Int)) (p : Nat × List Int) : textOf (ls ++ [p]) = textOf ls ++ lineT p.1 p.2 := by simp [textOf]
theorem rowsOf_length (r : ReqV) : (rowsOf r).length = r.pairs.length + r.types.length + r.items.length + 3 := by simp [rowsOf]; omega

theorem nDigits_most : ∀ (k u : Nat), u < 10 ^ (k + 1) → Lib.nDigits u ≤ k + 1
  | 0, u, h => by rw [Lib.nDigits_small (by simpa using h)]; exact Nat.le_refl _
  | k + 1, u, h => by
    by_cases hu : u < 10
    · rw [Lib.nDigits_small hu]; omega
    · rw [Lib.nDigits_big hu]
      have := nDigits_most k (u / 10) (by rw [Nat.pow_succ] at h; omega)
      omega
theorem itoa_length (n : Int) (h : -9223372036854775808 ≤ n ∧ n ≤ 9223372036854775807) : (Lib.itoa n).length ≤ 20 := by
  have hd : ∀ u : Nat, u < 10000000000000000000 → (Lib.decDigits u).length ≤ 19 := fun u hu => by
    rw [Lib.decDigits_length]; exact nDigits_most 18 u (by omega)
  unfold Lib.itoa
  split
  · have := hd n.natAbs (by omega)
    simp; omega
  · have := hd n.toNat (by omega)
    omega
def NumR (n : Int) : Prop := -9223372036854775808 ≤ n ∧ n ≤ 9223372036854775807
theorem numW_length (k : Nat) (n : Int) (h : NumR n) : (numW k n).length ≤ 20 := by
  unfold numW
  split
  · split
    · simp [wFirst]
    · split <;> simp [wNext]
  · exact itoa_length n h
theorem tailT_length (k : Nat) : ∀ (ns : List Int), (∀ n ∈ ns, NumR n) → (tailT k ns).length ≤ 21 * ns.length
  | [], _ => by simp [tailT]
  | n :: ns, h => by
    have h1 := numW_length k n (h n (by simp))
    have h2 := tailT_length k ns (fun m hm => h m (by simp [hm]))
    have e : tailT k (n :: ns) = 32 :: numW k n ++ tailT k ns := by simp [tailT]
    rw [e, List.length_append, List.length_cons, List.length_cons]
    omega
theorem kindWord_length (k : Nat) : (kindWord k).length ≤ 7 := by
  unfold kindWord
  split <;> simp
theorem lineT_length (k : Nat) (ns : List Int) (h : ∀ n ∈ ns, NumR n) (hl : ns.length ≤ 7) : (lineT k ns).length ≤ 160 := by
  have h1 := tailT_length k ns h
  have h2 := kindWord_length k
  unfold lineT
  simp
  omega
def LineR (p : Nat × List Int) : Prop := p.2.length ≤ 7 ∧ (∀ n ∈ p.2, NumR n) ∧ p.1 ≤ 6
theorem textOf_length : ∀ (ls : List (Nat × List Int)), (∀ p ∈ ls, LineR p) → (textOf ls).length ≤ 160 * ls.length
  | [], _ => by simp [textOf]
  | p :: ls, h => by
    have h1 := lineT_length p.1 p.2 (h p (by simp)).2.1 (h p (by simp)).1
    have h2 := textOf_length ls (fun q hq => h q (by simp [hq]))
    have e : textOf (p :: ls) = lineT p.1 p.2 ++ textOf ls := by simp [textOf]
    rw [e, List.length_append, List.length_cons]
    omega
theorem numB_range {k : Nat} {n : Int} (h : numB k n = true) : NumR n := by
  unfold numB at h
  unfold NumR
  split at h <;> (rw [inB_iff] at h; omega)
theorem lineB_range {k : Nat} {ns : List Int} (h : lineB k ns = true) : ∀ n ∈ ns, NumR n := fun n hn => numB_range (List.all_eq_true.1 h n hn)

/-- All numbers of an order are whole numbers of 64 bits. -/
def ReqV.wf (r : ReqV) : Prop := ∀ p ∈ linesR r, ∀ n ∈ p.2, NumR n
theorem linesR_ok (r : ReqV) (h : r.wf) : ∀ p ∈ linesR r, LineR p := by
  intro p hp
  refine ⟨?_, h p hp, ?_⟩ <;>
  · simp only [linesR, rowsOf, List.mem_cons, List.mem_append, List.mem_map, List.not_mem_nil, or_false] at hp
    rcases hp with rfl | (((((rfl | rfl) | ⟨q, _, rfl⟩) | ⟨q, _, rfl⟩) | rfl) | ⟨q, _, rfl⟩) <;> simp [PalletV.nums, PairV.nums, TypeV.nums, ItemV.nums]
theorem linesR_shape (r : ReqV) : ∀ p ∈ linesR r, p.2.length ≤ 7 ∧ p.1 ≤ 6 := by
  intro p hp
  refine ⟨?_, ?_⟩ <;>
  · simp only [linesR, rowsOf, List.mem_cons, List.mem_append, List.mem_map, List.not_mem_nil, or_false] at hp
    rcases hp with rfl | (((((rfl | rfl) | ⟨q, _, rfl⟩) | ⟨q, _, rfl⟩) | rfl) | ⟨q, _, rfl⟩) <;> simp [PalletV.nums, PairV.nums, TypeV.nums, ItemV.nums]

/-- Words put together with blanks between are the word and, behind each blank, a number. -/
theorem join_words (k : Nat) (x : List UInt8) : ∀ (ns : List Int), Lib.join (x :: ns.map (numW k)) [32] = x ++ tailT k ns
  | [] => by rw [List.map_nil, Lib.join_one]; simp [tailT]
  | n :: ns => by
    have ih := join_words k (numW k n) ns
    have e : tailT k (n :: ns) = 32 :: numW k n ++ tailT k ns := by simp [tailT]
    rw [e, List.map_cons]
    rw [Lib.join_cons] at ih ⊢
    have h3 := List.append_cancel_left ih
    simp only [Lib.joinTail, List.map_cons, List.flatten_cons] at h3 ⊢
    rw [h3]
    simp
theorem ofAll {ls : List (Nat × List Int)} {i : Nat} {p : Nat × List Int} (h : ls[i]? = some p) (hb : lineB p.1 p.2 = false) : okOf ls = false := by
  have hm := List.mem_of_getElem? h
  rw [Bool.eq_false_iff]
  intro hc
  have := List.all_eq_true.1 hc p hm
  simp [hb] at this
end Go.Proofs.YtbdpnmlhabliaaaDoor
