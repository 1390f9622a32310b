/- Plain facts for laws.FnNumbers: parts put together again; what is sorted stays; a number read from its digits. -/
import Derived.Test.YtljpiamkihhieakDoorNumberPlain
import Derived.Test.YtljpiamkihhieakDoorParts
import Derived.Test.YtljpiamkihhieakDoorSortRow
import Derived.Test.YtljpiamkihhieakDoorSum
namespace Go.Proofs.YtljpiamkihhieakDoor
open Go.RowKit

/-- The parts, each with the byte behind it. -/
def cat (b : UInt8) (ps : List ByteArray) : List UInt8 := ps.flatMap fun p => p.data.toList ++ [b]
theorem cat_snoc (b : UInt8) (ps : List ByteArray) (p : ByteArray) : cat b (ps ++ [p]) = cat b ps ++ (p.data.toList ++ [b]) := by simp [cat]
theorem ext_list (s : ByteArray) (f k : Nat) : (s.extract f k).data.toList = (s.data.toList.take k).drop f := by
  rw [ByteArray.data_extract, Array.toList_extract, List.extract_eq_take_drop, List.drop_take]
theorem take_cut (l : List UInt8) (f k : Nat) (h : f ≤ k) : l.take f ++ (l.take k).drop f = l.take k := by
  have : l.take f = (l.take k).take f := by rw [List.take_take, Nat.min_eq_left h]
  rw [this, List.take_append_drop]
theorem cat_pst (s : ByteArray) (b : UInt8) (k : Nat) (hk : k ≤ s.size) : cat b (pst s b k).1 = s.data.toList.take (pst s b k).2 := by
  induction k with
  | zero => simp [pst, cat]
  | succ k ih =>
    have ih := ih (by omega)
    have hbd := pst_bd s b k
    by_cases hhit : k = s.size ∨ s.data.toList[k]? = some b
    · have hb : s.data.toList[k]? = some b := by
        rcases hhit with h | h
        · omega
        · exact h
      rw [pst_hit s b k hhit]
      simp only [cat_snoc, ih, ext_list]
      rw [← List.append_assoc, take_cut _ _ _ hbd.2, List.take_add_one, hb]
      rfl
    · rw [pst_miss s b k hhit]; exact ih
theorem cat_parts (s : ByteArray) (b : UInt8) : cat b (partsOf s b) = s.data.toList ++ [b] := by
  have hbd := pst_bd s b s.size
  show cat b (pst s b (s.size + 1)).1 = _
  rw [pst_hit s b s.size (Or.inl rfl)]
  simp only [cat_snoc, cat_pst s b s.size (Nat.le_refl _), ext_list]
  rw [← List.append_assoc, take_cut _ _ _ hbd.2, List.take_of_length_le (by rw [Array.length_toList]; exact Nat.le_refl _)]
/-- What is put together of the first k parts. -/
def joined (b : UInt8) (ps : List ByteArray) (k : Nat) : List UInt8 := (cat b (ps.take k)).dropLast
theorem take_snoc (ps : List ByteArray) (k : Nat) (h : k < ps.length) : ps.take (k + 1) = ps.take k ++ [ps.getD k ByteArray.empty] := by
  rw [List.take_succ_eq_append_getElem h]
  simp [h]
theorem joined_succ (b : UInt8) (ps : List ByteArray) (k : Nat) (h : k < ps.length) : joined b ps (k + 1) = cat b (ps.take k) ++ (ps.getD k ByteArray.empty).data.toList := by
  unfold joined
  rw [take_snoc ps k h, cat_snoc, ← List.append_assoc, List.dropLast_concat]
theorem joined_b (b : UInt8) (ps : List ByteArray) (k : Nat) (h : k < ps.length) : joined b ps (k + 1) ++ [b] = cat b (ps.take (k + 1)) := by
  rw [joined_succ b ps k h, take_snoc ps k h, cat_snoc, ← List.append_assoc]
theorem joined_first (b : UInt8) (ps : List ByteArray) (S : ByteArray) (h : 0 < ps.length) (hS : S.data.toList = joined b ps 0) : (S ++ ps.getD 0 ByteArray.empty).data.toList = joined b ps (0 + 1) := by
  rw [joined_succ b ps 0 h, ByteArray.data_append, Array.toList_append, hS]
  simp [joined, cat]
theorem joined_next (b : UInt8) (ps : List ByteArray) (S : ByteArray) (k : Nat) (h : k + 1 < ps.length) (hS : S.data.toList = joined b ps (k + 1)) : ((S ++ ⟨#[b]⟩) ++ ps.getD (k + 1) ByteArray.empty).data.toList = joined b ps (k + 1 + 1) := by
  rw [joined_succ b ps (k + 1) h, ByteArray.data_append, Array.toList_append, ByteArray.data_append, Array.toList_append, hS, ← joined_b b ps k (by omega)]
theorem joined_all (s : ByteArray) (b : UInt8) (S : ByteArray) (n : Nat) (hn : (partsOf s b).length = n) (hS : S.data.toList = joined b (partsOf s b) n) : S = s := by
  have h : S.data.toList = s.data.toList := by
    rw [hS]
    unfold joined
    rw [List.take_of_length_le (by omega), cat_parts, List.dropLast_concat]
  exact ByteArray.ext (Array.toList_inj.1 h)
theorem cat_len (b : UInt8) (ps : List ByteArray) (k : Nat) : (cat b (ps.take k)).length ≤ (cat b ps).length := by
  have : cat b ps = cat b (ps.take k) ++ cat b (ps.drop k) := by
    unfold cat
    rw [← List.flatMap_append, List.take_append_drop]
  rw [this, List.length_append]
  omega
theorem joined_len (s : ByteArray) (b : UInt8) (S : ByteArray) (k : Nat) (hS : S.data.toList = joined b (partsOf s b) k) : S.size ≤ s.size := by
  have h := congrArg List.length hS
  have hc := cat_len b (partsOf s b) k
  rw [cat_parts, List.length_append] at hc
  unfold joined at h
  rw [List.length_dropLast, Array.length_toList] at h
  rw [Array.length_toList] at hc
  have e1 : S.size = S.data.size := rfl
  have e2 : s.size = s.data.size := rfl
  simp at hc
  omega
theorem part_len (s : ByteArray) (b : UInt8) (k : Nat) (h : k < (partsOf s b).length) : ((partsOf s b).getD k ByteArray.empty).size ≤ s.size := by
  have hc := cat_len b (partsOf s b) (k + 1)
  rw [take_snoc _ k h, cat_snoc, cat_parts] at hc
  simp at hc
  have e2 : s.size = s.data.size := rfl
  have e1 : ((partsOf s b).getD k ByteArray.empty).size = ((partsOf s b).getD k ByteArray.empty).data.size := rfl
  rw [e1, e2]
  simp at hc ⊢
  omega

/-- Number at a number's own digits. -/
theorem numB_itoa_in (n : Int) (h0 : 0 ≤ n) (h1 : n ≤ 999999) : numB (Lib.itoa n) = true ∧ numN (Lib.itoa n) = n := by
  have h := numOf_of_atoi (l := Lib.itoa n) h0 h1 rfl
  refine ⟨numB_of h, ?_⟩
  rw [numN_of h]
  omega
theorem numB_itoa_high (n : Int) (h : 999999 < n) : numB (Lib.itoa n) = false := by
  cases hn : numOf (Lib.itoa n) with
  | none => exact numB_no hn
  | some m =>
    obtain ⟨hm, hl, _⟩ := numOf_some hn
    rw [Lib.itoa, if_neg (by omega)] at hl
    have h1 := decFrom_decDigits n.toNat
    rw [hl, decFrom_decDigits] at h1
    cases h1
    omega
theorem numB_itoa_low (n : Int) (h : n < 0) : numB (Lib.itoa n) = false := by
  cases hn : numOf (Lib.itoa n) with
  | none => exact numB_no hn
  | some m =>
    obtain ⟨hm, hl, hd⟩ := numOf_some hn
    rw [Lib.itoa, if_pos h] at hd
    simp [Lib.decFrom, Lib.digitVal] at hd

/-- The keys in their order. -/
def inRow (ks : List Int) (F : List Nat) : List Int := F.map fun p => ks.getD p 0
theorem inRow_take (ks : List Int) (F : List Nat) (k : Nat) (h : k < F.length) : inRow ks (F.take (k + 1)) = inRow ks (F.take k) ++ [ks.getD F[k] 0] := by
  unfold inRow
  rw [List.take_succ_eq_append_getElem h, List.map_append]
  rfl
theorem inRow_perm (ks : List Int) (m : Nat) (hm : ks.length = m) : (inRow ks (sortP ks false (List.range m))).Perm ks := by
  have h := (sortP_perm ks false (List.range m)).map fun p => ks.getD p 0
  have e : (List.range m).map (fun p => ks.getD p 0) = ks := by
    apply List.ext_getElem
    · simp [hm]
    · intro i h1 h2
      simp [h2]
  rw [e] at h
  exact h
theorem sum_perm {l l' : List Int} (h : l.Perm l') : l.sum = l'.sum := by
  induction h with
  | nil => rfl
  | cons x _ ih => simp [ih]
  | swap x y l => simp; omega
  | trans _ _ h1 h2 => exact h1.trans h2
theorem inRow_sum (ks : List Int) (m : Nat) (hm : ks.length = m) : sumUp (inRow ks (sortP ks false (List.range m))) = sumUp ks := by
  unfold sumUp
  exact sum_perm ((inRow_perm ks m hm).map _)
theorem again_range (ks : List Int) (m : Nat) : sortP (inRow ks (sortP ks false (List.range m))) false (List.range m) = List.range m := by
  have hs := sortP_sorted ks false (List.range m) List.nodup_range
  have hl : (sortP ks false (List.range m)).length = m := by rw [(sortP_perm ks false _).length_eq, List.length_range]
  generalize sortP ks false (List.range m) = F at *
  refine (sortP_eq List.nodup_range (List.Perm.refl _) ?_).symm
  rw [List.pairwise_iff_getElem]
  intro i j hi hj hij
  simp only [List.length_range] at hi hj
  simp only [List.getElem_range]
  refine bef_of_not ?_ hij
  have hb := List.pairwise_iff_getElem.1 hs i j (by omega) (by omega) hij
  have h2 := lts_of_bef hb
  unfold lts key at *
  unfold inRow
  simp only [Bool.false_eq_true, if_false] at h2 ⊢
  rw [show (F.map fun p => ks.getD p 0).getD j 0 = ks.getD F[j] 0 by simp [hl, hj], show (F.map fun p => ks.getD p 0).getD i 0 = ks.getD F[i] 0 by simp [hl, hi]]
  exact h2
end Go.Proofs.YtljpiamkihhieakDoor
