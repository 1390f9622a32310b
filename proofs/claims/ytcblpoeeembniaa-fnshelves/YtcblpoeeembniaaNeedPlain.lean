/- Why there is one shelf more: its first box found no room on the one ahead; and it is as deep as that box. -/
import Derived.Test.YtcblpoeeembniaaShelvesImpl
import Derived.Test.YtcblpoeeembniaaSortPlain
namespace Go.Proofs.Ytcblpoeeembniaa
open Go Go.RowKit
set_option linter.unusedVariables false

def NeedAt (p : PalletV) (bs : List BoxV) (pre : List Nat) (ss : List ShelfV) (i : Nat) : Prop :=
 ∃ (j : Nat) (t : List Int), (ss.getD i default).us = (j : Int) :: t ∧ (ss.getD i default).dp = (bs.getD j default).dp ∧ j ∈ pre ∧ (0 < i → roomS p (ss.getD (i - 1) default) (bs.getD j default) = false)
theorem NeedAt.more {p : PalletV} {bs : List BoxV} {pre : List Nat} {ss ss' : List ShelfV} {i x : Nat} (h : NeedAt p bs pre ss i) (h1 : ss'.getD i default = ss.getD i default) (h2 : 0 < i → ss'.getD (i - 1) default = ss.getD (i - 1) default) : NeedAt p bs (pre ++ [x]) ss' i := by
 obtain ⟨j, t, a, b, c, d⟩ := h
 exact ⟨j, t, by rw [h1]; exact a, by rw [h1]; exact b, by simp [c], fun hi => by rw [h2 hi]; exact d hi⟩
theorem need_new {p : PalletV} {bs : List BoxV} {pre : List Nat} {ss : List ShelfV} {x : Nat} (h0 : 0 ≤ (bs.getD x default).dp) (hr : 0 < ss.length → roomS p (ss.getD (ss.length - 1) default) (bs.getD x default) = false) : NeedAt p bs (pre ++ [x]) (ss ++ [ShelfV.zero.add (x : Int) (bs.getD x default)]) ss.length := by
 refine ⟨x, [], by rw [getD_snoc_eq]; rfl, ?_, by simp, fun hi => ?_⟩
 · rw [getD_snoc_eq]
   show mx 0 _ = _
   unfold mx
   split <;> omega
 · rw [getD_snoc_lt (by omega)]
   exact hr hi
theorem need_step {p : PalletV} {bs : List BoxV} {pre : List Nat} {ss : List ShelfV} {x : Nat} (h : ∀ i, i < ss.length → NeedAt p bs pre ss i) (hle : ∀ a ∈ pre, (bs.getD x default).dp ≤ (bs.getD a default).dp) (h0 : 0 ≤ (bs.getD x default).dp) :
 ∀ i, i < (stepS p bs ss x).length → NeedAt p bs (pre ++ [x]) (stepS p bs ss x) i := by
 intro i hi
 rcases List.eq_nil_or_concat ss with rfl | ⟨zs, s, hs⟩
 · rw [stepS_first] at hi ⊢
   obtain rfl : i = 0 := by simp at hi; omega
   exact need_new (ss := []) h0 (fun h => absurd h (by simp))
 have hs : ss = zs ++ [s] := by rw [hs]; simp
 subst hs
 have hl : (zs ++ [s]).length = zs.length + 1 := by simp
 cases hr : roomS p s (bs.getD x default)
 · rw [stepS_new hr] at hi ⊢
   by_cases e : i < zs.length + 1
   · exact (h i (by omega)).more (getD_snoc_lt (by omega)) (fun _ => getD_snoc_lt (by omega))
   · obtain rfl : i = (zs ++ [s]).length := by simp at hi ⊢; omega
     refine need_new h0 (fun _ => ?_)
     rw [hl, Nat.add_sub_cancel, getD_snoc_eq]
     exact hr
 · rw [stepS_room hr] at hi ⊢
   by_cases e : i < zs.length
   · exact (h i (by omega)).more ((getD_snoc_lt e).trans (getD_snoc_lt e).symm) (fun _ => (getD_snoc_lt (by omega)).trans (getD_snoc_lt (by omega)).symm)
   · obtain rfl : i = zs.length := by simp at hi; omega
     obtain ⟨j, t, a, b, c, d⟩ := h zs.length (by omega)
     rw [getD_snoc_eq] at a b
     have hx := hle j c
     refine ⟨j, t ++ [(x : Int)], by rw [getD_snoc_eq]; show s.us ++ [_] = _; rw [a]; rfl, ?_, by simp [c], fun hi => ?_⟩
     · rw [getD_snoc_eq]
       show mx s.dp _ = _
       rw [b]
       unfold mx
       split <;> omega
     · have := d hi
       rw [getD_snoc_lt (by omega)] at this ⊢
       exact this
theorem need_fold {p : PalletV} {bs : List BoxV} : ∀ (order pre : List Nat) (ss : List ShelfV), (∀ i, i < ss.length → NeedAt p bs pre ss i) → (∀ a ∈ pre, ∀ b ∈ order, (bs.getD b default).dp ≤ (bs.getD a default).dp) → order.Pairwise (fun a b => (bs.getD b default).dp ≤ (bs.getD a default).dp) → (∀ b ∈ order, 0 ≤ (bs.getD b default).dp) →
 ∀ i, i < (order.foldl (stepS p bs) ss).length → NeedAt p bs (pre ++ order) (order.foldl (stepS p bs) ss) i
 | [], pre, ss, h, _, _, _ => by simpa using h
 | x :: order, pre, ss, h, h1, h2, h3 => by
  have hs := need_step h (fun a ha => h1 a ha x (by simp)) (h3 x (by simp))
  rw [List.pairwise_cons] at h2
  have := need_fold order (pre ++ [x]) (stepS p bs ss x) hs (fun a ha b hb => by
   rcases List.mem_append.1 ha with ha | ha
   · exact h1 a ha b (by simp [hb])
   · simp at ha
     subst ha
     exact h2.1 b hb) h2.2 (fun b hb => h3 b (by simp [hb]))
  simpa using this
theorem key_dp (bs : List BoxV) (i : Nat) (h : i < bs.length) : key (bs.map (fun s => s.dp)) i = (bs.getD i default).dp := by simp [key, h]
theorem orderB_deep (bs : List BoxV) : (orderB bs).Pairwise (fun a b => (bs.getD b default).dp ≤ (bs.getD a default).dp) := by
 have h := sortP_sorted (bs.map (fun s => s.dp)) true (List.range bs.length) List.nodup_range
 refine List.Pairwise.imp_of_mem ?_ h
 intro a b ha hb hab
 have h1 := lts_of_bef hab
 simp only [lts, if_true, decide_eq_false_iff_not] at h1
 rw [key_dp bs a (orderB_in ha), key_dp bs b (orderB_in hb)] at h1
 omega
/-- Each shelf's first box. -/
theorem need_at (p : PalletV) (bs : List BoxV) (i : Nat) (hi : i < (shelvesR p bs).length) :
 ∃ (j : Nat) (t : List Int), ((shelvesR p bs).getD i default).us = (j : Int) :: t ∧ j < bs.length ∧ ((shelvesR p bs).getD i default).dp = (bs.getD j default).dp ∧ (0 < i → roomS p ((shelvesR p bs).getD (i - 1) default) (bs.getD j default) = false) := by
 by_cases hb : boxesB p bs = true
 · have e : shelvesR p bs = shelvesTo p bs (orderB bs) := by rw [shelvesR, if_pos hb]
   rw [e] at hi ⊢
   obtain ⟨j, t, a, b, c, d⟩ := need_fold (orderB bs) [] [] (fun i hi => absurd hi (Nat.not_lt_zero _)) (fun a ha => by cases ha) (orderB_deep bs) (fun x hx => by have := box_in (boxesB_in hb (orderB_in hx)); omega) i hi
   exact ⟨j, t, a, orderB_in (by simpa using c), b, d⟩
 · rw [shelvesR, if_neg hb] at hi
   exact absurd hi (Nat.not_lt_zero _)
end Go.Proofs.Ytcblpoeeembniaa
