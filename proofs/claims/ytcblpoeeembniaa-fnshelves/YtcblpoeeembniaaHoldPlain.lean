/- What lies on the shelves: each box once, as wide and heavy as they are together, none deeper or higher than its shelf; no shelf deeper than the one ahead. -/
import Derived.Test.YtcblpoeeembniaaNeedPlain
namespace Go.Proofs.Ytcblpoeeembniaa
open Go Go.RowKit
set_option linter.unusedVariables false

theorem flat_step (p : PalletV) (bs : List BoxV) (ss : List ShelfV) (x : Nat) : (stepS p bs ss x).flatMap (fun s => s.us) = ss.flatMap (fun s => s.us) ++ [(x : Int)] := by
 rcases List.eq_nil_or_concat ss with rfl | ⟨zs, s, hs⟩
 · rw [stepS_first]; rfl
 have hs : ss = zs ++ [s] := by rw [hs]; simp
 subst hs
 cases hr : roomS p s (bs.getD x default)
 · rw [stepS_new hr, List.flatMap_append]; rfl
 · rw [stepS_room hr, List.flatMap_append, List.flatMap_append, List.append_assoc]
   simp [ShelfV.add]
theorem flat_fold (p : PalletV) (bs : List BoxV) : ∀ (order : List Nat) (ss : List ShelfV), (order.foldl (stepS p bs) ss).flatMap (fun s => s.us) = ss.flatMap (fun s => s.us) ++ order.map (fun (x : Nat) => (x : Int))
 | [], ss => by simp
 | x :: order, ss => by
  rw [List.foldl_cons, flat_fold p bs order, flat_step]
  simp
/-- What a shelf's places come to. -/
structure HoldS (bs : List BoxV) (s : ShelfV) : Prop where
 inn : ∀ b ∈ s.us, ∃ j : Nat, b = (j : Int) ∧ j < bs.length ∧ (bs.getD j default).dp ≤ s.dp ∧ (bs.getD j default).ht ≤ s.ht
 wd : (s.us.map (fun b => (bs.getD b.toNat default).wd)).sum = s.wd
 gram : (s.us.map (fun b => (bs.getD b.toNat default).gram)).sum = s.gram
theorem mx_l (a b : Int) : a ≤ mx a b := by unfold mx; split <;> omega
theorem mx_r (a b : Int) : b ≤ mx a b := by unfold mx; split <;> omega
theorem HoldS.zero (bs : List BoxV) : HoldS bs ShelfV.zero := ⟨(fun b hb => by cases hb), rfl, rfl⟩
theorem HoldS.add {bs : List BoxV} {s : ShelfV} (h : HoldS bs s) {x : Nat} (hx : x < bs.length) : HoldS bs (s.add (x : Int) (bs.getD x default)) := by
 refine ⟨fun b hb => ?_, ?_, ?_⟩
 · rcases List.mem_append.1 (show b ∈ s.us ++ [(x : Int)] from hb) with hb | hb
   · obtain ⟨j, e, hj, h1, h2⟩ := h.inn b hb
     exact ⟨j, e, hj, Int.le_trans h1 (mx_l _ _), Int.le_trans h2 (mx_l _ _)⟩
   · simp at hb
     exact ⟨x, hb, hx, mx_r _ _, mx_r _ _⟩
 · show ((s.us ++ [(x : Int)]).map _).sum = s.wd + _
   rw [List.map_append, List.sum_append, h.wd]
   simp
 · show ((s.us ++ [(x : Int)]).map _).sum = s.gram + _
   rw [List.map_append, List.sum_append, h.gram]
   simp
theorem hold_step {p : PalletV} {bs : List BoxV} {ss : List ShelfV} {x : Nat} (h : ∀ s ∈ ss, HoldS bs s) (hx : x < bs.length) : ∀ s ∈ stepS p bs ss x, HoldS bs s := by
 intro s hs
 unfold stepS at hs
 by_cases e : 0 < ss.length ∧ roomS p (ss.getD (ss.length - 1) default) (bs.getD x default) = true
 · rw [if_pos e] at hs
   rcases mem_set_cases hs with hs | rfl
   · exact h s hs
   · exact (h _ (getD_mem (by omega))).add hx
 · rw [if_neg e] at hs
   rcases List.mem_append.1 hs with hs | hs
   · exact h s hs
   · simp at hs
     subst hs
     exact (HoldS.zero bs).add hx
theorem hold_fold {p : PalletV} {bs : List BoxV} : ∀ (order : List Nat) (ss : List ShelfV), (∀ s ∈ ss, HoldS bs s) → (∀ x ∈ order, x < bs.length) → ∀ s ∈ order.foldl (stepS p bs) ss, HoldS bs s
 | [], ss, h, _ => h
 | x :: order, ss, h, hx => hold_fold order _ (hold_step h (hx x (by simp))) (fun y hy => hx y (by simp [hy]))
theorem hold_at (p : PalletV) (bs : List BoxV) (i : Nat) (hi : i < (shelvesR p bs).length) : HoldS bs ((shelvesR p bs).getD i default) := by
 by_cases hb : boxesB p bs = true
 · have e : shelvesR p bs = shelvesTo p bs (orderB bs) := by rw [shelvesR, if_pos hb]
   rw [e] at hi ⊢
   exact hold_fold (orderB bs) [] (fun s hs => by cases hs) (fun x hx => orderB_in hx) _ (getD_mem hi)
 · rw [shelvesR, if_neg hb] at hi
   exact absurd hi (Nat.not_lt_zero _)
theorem count_cast (b : Nat) : ∀ l : List Nat, (l.map (fun (x : Nat) => (x : Int))).count (b : Int) = l.count b
 | [] => rfl
 | x :: l => by
  rw [List.map_cons, List.count_cons, List.count_cons, count_cast b l]
  by_cases e : x = b
  · subst e; simp
  · have e' : ¬ (x : Int) = (b : Int) := by omega
    simp [e, e']
/-- All places, one behind the other: the order itself; each of them once. -/
theorem flat_is {p : PalletV} {bs : List BoxV} (hb : boxesB p bs = true) : (shelvesR p bs).flatMap (fun s => s.us) = (orderB bs).map (fun (x : Nat) => (x : Int)) := by
 rw [shelvesR, if_pos hb, shelvesTo, flat_fold]
 rfl
theorem flat_once {p : PalletV} {bs : List BoxV} (hb : boxesB p bs = true) (b : Nat) (h : b < bs.length) : ((shelvesR p bs).flatMap (fun s => s.us)).count (b : Int) = 1 := by
 rw [flat_is hb]
 have hp := sortP_perm (bs.map (fun s => s.dp)) true (List.range bs.length)
 have h1 : (orderB bs).count b = 1 := by
  rw [orderB, hp.count_eq, List.count_range, if_pos h]
 rw [← h1]
 exact count_cast b _
theorem deep_step {p : PalletV} {bs : List BoxV} {pre : List Nat} {ss : List ShelfV} {x : Nat} (h : ∀ i, 0 < i → i < ss.length → (ss.getD i default).dp ≤ (ss.getD (i - 1) default).dp) (hn : ∀ i, i < ss.length → NeedAt p bs pre ss i) (hle : ∀ a ∈ pre, (bs.getD x default).dp ≤ (bs.getD a default).dp) (h0 : 0 ≤ (bs.getD x default).dp) :
 ∀ i, 0 < i → i < (stepS p bs ss x).length → ((stepS p bs ss x).getD i default).dp ≤ ((stepS p bs ss x).getD (i - 1) default).dp := by
 intro i h1 hi
 rcases List.eq_nil_or_concat ss with rfl | ⟨zs, s, hs⟩
 · rw [stepS_first] at hi
   simp at hi
   omega
 have hs : ss = zs ++ [s] := by rw [hs]; simp
 subst hs
 have hl : (zs ++ [s]).length = zs.length + 1 := by simp
 obtain ⟨j, t, a, b, c, d⟩ := hn zs.length (by omega)
 rw [getD_snoc_eq] at a b
 have hx := hle j c
 cases hr : roomS p s (bs.getD x default)
 · rw [stepS_new hr] at hi ⊢
   by_cases e : i < zs.length + 1
   · rw [getD_snoc_lt (xs := zs ++ [s]) (i := i) (by omega), getD_snoc_lt (xs := zs ++ [s]) (i := i - 1) (by omega)]
     exact h i h1 (by omega)
   · obtain rfl : i = (zs ++ [s]).length := by simp at hi ⊢; omega
     rw [getD_snoc_eq, getD_snoc_lt (xs := zs ++ [s]) (i := (zs ++ [s]).length - 1) (by omega), hl, Nat.add_sub_cancel, getD_snoc_eq]
     show mx 0 _ ≤ _
     unfold mx
     split <;> omega
 · rw [stepS_room hr] at hi ⊢
   have e2 : i - 1 < zs.length := by simp at hi; omega
   rw [getD_snoc_lt e2]
   by_cases e : i < zs.length
   · rw [getD_snoc_lt e]
     have := h i h1 (by omega)
     rw [getD_snoc_lt e, getD_snoc_lt e2] at this
     exact this
   · obtain rfl : i = zs.length := by simp at hi; omega
     rw [getD_snoc_eq]
     have := h zs.length h1 (by omega)
     rw [getD_snoc_eq, getD_snoc_lt e2] at this
     show mx s.dp _ ≤ _
     unfold mx
     split <;> omega
theorem deep_fold {p : PalletV} {bs : List BoxV} : ∀ (order pre : List Nat) (ss : List ShelfV), (∀ i, 0 < i → i < ss.length → (ss.getD i default).dp ≤ (ss.getD (i - 1) default).dp) → (∀ i, i < ss.length → NeedAt p bs pre ss i) → (∀ a ∈ pre, ∀ b ∈ order, (bs.getD b default).dp ≤ (bs.getD a default).dp) → order.Pairwise (fun a b => (bs.getD b default).dp ≤ (bs.getD a default).dp) → (∀ b ∈ order, 0 ≤ (bs.getD b default).dp) →
 ∀ i, 0 < i → i < (order.foldl (stepS p bs) ss).length → ((order.foldl (stepS p bs) ss).getD i default).dp ≤ ((order.foldl (stepS p bs) ss).getD (i - 1) default).dp
 | [], pre, ss, h, _, _, _, _ => h
 | x :: order, pre, ss, h, hn, h1, h2, h3 => by
  have hs := need_step hn (fun a ha => h1 a ha x (by simp)) (h3 x (by simp))
  have hd := deep_step h hn (fun a ha => h1 a ha x (by simp)) (h3 x (by simp))
  rw [List.pairwise_cons] at h2
  exact deep_fold order (pre ++ [x]) (stepS p bs ss x) hd hs (fun a ha b hb => by
   rcases List.mem_append.1 ha with ha | ha
   · exact h1 a ha b (by simp [hb])
   · simp at ha
     subst ha
     exact h2.1 b hb) h2.2 (fun b hb => h3 b (by simp [hb]))
/-- No shelf is deeper than the one ahead. -/
theorem deep_at (p : PalletV) (bs : List BoxV) (i : Nat) (h0 : 0 < i) (hi : i < (shelvesR p bs).length) : ((shelvesR p bs).getD i default).dp ≤ ((shelvesR p bs).getD (i - 1) default).dp := by
 by_cases hb : boxesB p bs = true
 · have e : shelvesR p bs = shelvesTo p bs (orderB bs) := by rw [shelvesR, if_pos hb]
   rw [e] at hi ⊢
   exact deep_fold (orderB bs) [] [] (fun i _ hi => absurd hi (Nat.not_lt_zero _)) (fun i hi => absurd hi (Nat.not_lt_zero _)) (fun a ha => by cases ha) (orderB_deep bs) (fun x hx => by have := box_in (boxesB_in hb (orderB_in hx)); omega) i h0 hi
 · rw [shelvesR, if_neg hb] at hi
   exact absurd hi (Nat.not_lt_zero _)
/-- No shelf is wider or heavier than the pallet lets it. -/
theorem size_at (p : PalletV) (bs : List BoxV) (i : Nat) (hi : i < (shelvesR p bs).length) : ShelfOk p ((shelvesR p bs).getD i default) := by
 by_cases hb : boxesB p bs = true
 · have e : shelvesR p bs = shelvesTo p bs (orderB bs) := by rw [shelvesR, if_pos hb]
   rw [e] at hi ⊢
   exact shelvesTo_ok (orderB bs) [] (fun s hs => by cases hs) (fun x hx => boxesB_in hb (orderB_in hx)) _ (getD_mem hi)
 · rw [shelvesR, if_neg hb] at hi
   exact absurd hi (Nat.not_lt_zero _)
/-- As many places as boxes. -/
theorem flat_len {p : PalletV} {bs : List BoxV} (hb : boxesB p bs = true) : ((shelvesR p bs).flatMap (fun s => s.us)).length = bs.length := by
 rw [flat_is hb, List.length_map, orderB, (sortP_perm _ _ _).length_eq, List.length_range]
end Go.Proofs.Ytcblpoeeembniaa
