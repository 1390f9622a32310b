/- SortI, SortPlain, SortCmp, SortRow, MergePlain, MergeWalk: one text. -/
import Derived.Test.YtcblpoeeembniabGreatDoorPkA
import Derived.WalkSpells
/- slices.Sort at a row of at most twelve numbers that lies in a block of its own: the library's insertion sort, walked. -/
namespace Go.Proofs.YtcblpoeeembniabGreatDoor
open Go.RowKit
set_option linter.unusedVariables false

def ci (L : List Int) : List Value := L.map (Value.int .i64)
theorem ci_len (L : List Int) : (ci L).length = L.length := by simp [ci]
theorem ci_at (L : List Int) (i : Nat) (h : i < L.length) : (ci L)[i]? = some (.int .i64 (L.getD i 0)) := by simp [ci, h]
theorem ci_set (L : List Int) (i : Nat) (v : Int) : (ci L).set i (.int .i64 v) = ci (L.set i v) := by simp [ci, List.map_set]
theorem Blk.int {w : World} {g : Nat} {L : List Int} (h : Blk w g (ci L)) (i : Nat) (hi : i < L.length) : w.cell? ⟨g, i, none⟩ = some (.int .i64 (L.getD i 0)) ∧ w.frozen? ⟨g, i, none⟩ = false := by
 have := h i (by rw [ci_len]; exact hi)
 rw [ci_at L i hi] at this
 exact this
theorem Blk.puts {w : World} {g : Nat} {L : List Int} (h : Blk w g (ci L)) (i : Nat) (hi : i < L.length) (v : Int) : Blk (w.setCell ⟨g, i, none⟩ (.int .i64 v)) g (ci (L.set i v)) := by
 have := h.set (j := i) (v := .int .i64 v) (by rw [ci_len]; exact hi)
 rw [ci_set] at this
 exact this
theorem Blk.drewn {w : World} {g : Nat} {cs : List Value} (h : Blk w g cs) (m : Nat) : Blk (w.drewN m) g cs := h
theorem gbi_drew {w w' : World} {row : Option Nat} (h : w.grownBy w' row) (m : Nat) : w.grownBy (w'.drewN m) row := ⟨h.os, h.tape, h.output, h.size, h.block⟩
def upI (L : List Int) : Prop := L.Pairwise (· ≤ ·)
theorem upI_ins {S R : List Int} {x : Int} (hT : upI (S ++ R)) (hR : ∀ r ∈ R, x < r) (hS : S = [] ∨ ∃ S' y, S = S' ++ [y] ∧ y ≤ x) : upI (S ++ x :: R) := by
 unfold upI at *
 rw [List.pairwise_append] at hT ⊢
 obtain ⟨h1, h2, h3⟩ := hT
 have hSx : ∀ s ∈ S, s ≤ x := by
  intro s hs
  rcases hS with rfl | ⟨S', y, rfl, hy⟩
  · simp at hs
  · rw [List.pairwise_append] at h1
    rcases List.mem_append.1 hs with h | h
    · exact Int.le_trans (h1.2.2 s h y (by simp)) hy
    · simp at h; subst h; exact hy
 refine ⟨h1, List.pairwise_cons.2 ⟨fun r hr => Int.le_of_lt (hR r hr), h2⟩, fun s hs b hb => ?_⟩
 rcases List.mem_cons.1 hb with rfl | hb
 · exact hSx s hs
 · exact Int.le_trans (hSx s hs) (Int.le_of_lt (hR b hb))
theorem nil_or_lastI (S : List Int) : S = [] ∨ ∃ S' y, S = S' ++ [y] := by
 rcases List.eq_nil_or_concat S with h | ⟨S', y, h⟩
 · exact Or.inl h
 · exact Or.inr ⟨S', y, by simpa using h⟩
theorem swapI (S : List Int) (y x : Int) (R : List Int) (i : Nat) (hi : i = S.length) : ((S ++ [y] ++ x :: R).set (i + 1) y).set i x = S ++ x :: y :: R := by
 subst hi
 simp
theorem midI_x (S : List Int) (y x : Int) (R : List Int) : (S ++ [y] ++ x :: R).getD (S.length + 1) 0 = x := by simp
theorem midI_y (S : List Int) (y x : Int) (R : List Int) : (S ++ [y] ++ x :: R).getD S.length 0 = y := by simp

set_option maxHeartbeats 400000 in
theorem isNaNInt_any (x : Int) (w : World) : Calls Tryz.prog 97 #[.int .i64 x] w fun e w' => e = .returned (.bool false) ∧ w' = w := by
 go_enter Tryz.func97, Tryz.ntmps97
 go_wp2
 go_ret
 exact ⟨by simp, rfl⟩
set_option maxHeartbeats 400000 in
theorem lessInt_any (x y : Int) (w : World) : Calls Tryz.prog 148 #[.int .i64 x, .int .i64 y] w fun e w' => e = .returned (.bool (decide (x < y))) ∧ w' = w := by
 go_enter Tryz.func148, Tryz.ntmps148
 go_wp2_with (go_at_call 97; refine (isNaNInt_any _ _).mono ?_; rintro e w' ⟨rfl, rfl⟩)
 go_ret
 exact ⟨rfl, rfl⟩
set_option maxHeartbeats 3200000 in
theorem insI_any (g n cap : Nat) (L : List Int) (w : World) (hl : L.length = n) (hn1 : 1 ≤ n) (hn : n ≤ 1048576) (hB : Blk w g (ci L)) :
 Calls Tryz.prog 142 #[.slice (some ⟨g, 0, none⟩) n cap, .int .i64 0, .int .i64 (n : Int)] w fun e w' =>
  e = .returned (.tuple #[]) ∧ ∃ M, M.Perm L ∧ upI M ∧ Blk w' g (ci M) ∧ w.grownBy w' (some g) := by
 go_enter Tryz.func142, Tryz.ntmps142
 go_wp2
 go_loopw [6] (fun i wr => ∃ (t : Nat) (T : List Int), 1 ≤ t ∧ t ≤ n ∧ i = .int .i64 (t : Int) ∧ T.Perm (L.take t) ∧ upI T ∧ Blk wr g (ci (T ++ L.drop t)) ∧ w.grownBy wr (some g)) (fun i _ => ((n : Int) - intOf i).toNat)
 case atStart => exact ⟨1, L.take 1, Nat.le_refl _, hn1, by go_num, List.Perm.refl _, by unfold upI; cases L <;> simp, by rw [List.take_append_drop]; exact hB, World.grownBy.refl _ _⟩
 case round =>
  obtain ⟨t, T, ht1, ht2, rfl, hperm, hsort, how, hgb⟩ := hrel
  by_cases hlt : t < n
  · have hTl : T.length = t := by rw [hperm.length_eq, List.length_take]; omega
    have hx : L.drop t = L[t] :: L.drop (t + 1) := List.drop_eq_getElem_cons (by omega)
    have hpt : (T ++ [L[t]]).Perm (L.take (t + 1)) := by
     rw [List.take_succ_eq_append_getElem (by omega)]; exact hperm.append_right _
    have hrl : (L.drop (t + 1)).length = n - (t + 1) := by simp [hl]
    rw [hx] at how
    clear hx
    generalize hxx : L[t] = x at *
    generalize hrest : L.drop (t + 1) = rest at *
    have HR : Hid (L.drop (t + 1) = rest) := hrest
    clear hxx hrest
    have hHT := hide hTl
    have hRL := hide hrl
    clear hTl hrl
    go_wp2
    obtain ⟨wo, rfl⟩ : ∃ wo : World, wo = wr := ⟨_, rfl⟩
    go_loopw [7] (fun j wi => ∃ (S R : List Int) (k : Nat), S ++ R = T ∧ k = S.length ∧ j = .int .i64 (k : Int) ∧ (∀ r ∈ R, x < r) ∧ Blk wi g (ci (S ++ x :: (R ++ rest))) ∧ w.grownBy wi (some g)) (fun j _ => (intOf j).toNat)
    case atStart => exact ⟨T, [], t, List.append_nil _, by rw [hHT.out], by go_num, fun r hr => by simp at hr, how, hgb⟩
    case round =>
     clear how hgb
     obtain ⟨S, R, k, hSR, hks, rfl, hRx, how, hgb⟩ := hrel
     have hSRl : S.length + R.length = t := by have := congrArg List.length hSR; rw [List.length_append, hHT.out] at this; exact this
     have hl2 : (S ++ x :: (R ++ rest)).length = n := by
      have := hRL.out
      simp only [List.length_append, List.length_cons]; omega
     rcases nil_or_lastI S with rfl | ⟨S', y, rfl⟩
     · have hk0 : k = 0 := by simpa using hks
       subst hk0
       have hT0 : R = T := by simpa using hSR
       subst hT0
       have hfin := upI_ins (S := []) (by simpa using hsort) hRx (Or.inl rfl)
       have HFIN := hide hfin
       have HOW := hide how
       have HGB := hide hgb
       have HPT : Hid ((x :: R).Perm (L.take (t + 1))) := (List.perm_append_comm (l₁ := [x]) (l₂ := R)).trans hpt
       clear hfin how hgb hSR hks hRx hsort hSRl hl2 hpt hperm
       go_wp2
       go_quiet (fail)
       go_wp2
       go_roundw
       case rel => exact ⟨t + 1, x :: R, by omega, by omega, by go_num, HPT.out, HFIN.out, by rw [HR.out]; simpa using HOW.out.drewn _, gbi_drew HGB.out _⟩
       case measure => simp [intOf]; omega
     · obtain ⟨i, hi⟩ : ∃ i, i = S'.length := ⟨_, rfl⟩
       have hki : k = i + 1 := by simp at hks; omega
       subst hki
       have hin2 : i + 1 < n := by rw [← hl2]; simp; omega
       have e1 : (S' ++ [y] ++ x :: (R ++ rest)).getD (i + 1) 0 = x := by rw [hi]; exact midI_x _ _ _ _
       have e0 : (S' ++ [y] ++ x :: (R ++ rest)).getD i 0 = y := by rw [hi]; exact midI_y _ _ _ _
       have b1 := how.int (i + 1) (by rw [hl2]; exact hin2)
       have b0 := how.int i (by rw [hl2]; omega)
       rw [e1] at b1
       rw [e0] at b0
       obtain ⟨c1, f1⟩ := b1
       obtain ⟨c0, f0⟩ := b0
       have hd : decide ((0 : Int) < (i : Int) + 1) = true := by rw [decide_eq_true_eq]; omega
       have hsub : (i : Int) + 1 - 1 = (i : Int) := by omega
       have HI := hide hi
       clear hi hks e1 e0
       by_cases hxy : x < y
       · have hxd : decide (x < y) = true := by simpa using hxy
         have HST : Hid (∀ m, Blk (((wr.drewN m).setCell ⟨g, i + 1, none⟩ (.int .i64 y)).setCell ⟨g, i, none⟩ (.int .i64 x)) g (ci (S' ++ x :: (y :: R ++ rest)))) := by
          intro m
          have hst := ((how.drewn m).puts (i + 1) (by rw [hl2]; exact hin2) y).puts i (by rw [List.length_set, hl2]; omega) x
          rw [swapI S' y x (R ++ rest) i HI.out] at hst
          exact hst
         have HGB : Hid (∀ m, w.grownBy (((wr.drewN m).setCell ⟨g, i + 1, none⟩ (.int .i64 y)).setCell ⟨g, i, none⟩ (.int .i64 x)) (some g)) := fun m => gb_set (gb_set (gbi_drew hgb m) (i + 1) _) i _
         have HRX : Hid (∀ r ∈ y :: R, x < r) := by
          intro r hr
          rcases List.mem_cons.1 hr with rfl | hr
          · exact hxy
          · exact hRx r hr
         have HSR : Hid (S' ++ (y :: R) = T) := by rw [Hid, ← hSR]; simp
         have HTT := hide (And.intro hsort (And.intro hperm hpt))
         clear how hgb hRx hSR hxy hsort hperm hpt hSRl hl2
         go_wp2
         go_quiet ((go_at_call 148; exact Calls.quiet_of_same (lessInt_any _ _ _)))
         go_wp2
         go_region
         go_wp2
         go_roundw
         case rel => exact ⟨S', y :: R, i, HSR.out, HI.out, by go_num, HRX.out, HST.out _, HGB.out _⟩
         case measure => simp [intOf]
       · have hxd : decide (x < y) = false := by simpa using hxy
         have hfin := upI_ins (S := S' ++ [y]) (by rw [hSR]; exact hsort) hRx (Or.inr ⟨S', y, rfl, by omega⟩)
         have HFIN := hide hfin
         have hpp : ((S' ++ [y]) ++ x :: R).Perm (L.take (t + 1)) := by
          refine List.Perm.trans ?_ hpt
          rw [← hSR]
          refine (List.perm_middle).trans ?_
          exact (List.perm_append_comm (l₁ := [x]))
         have HPP := hide hpp
         have HOW := hide how
         have HGB := hide hgb
         clear hfin how hgb hRx hSR hxy hsort hperm hpt hpp hSRl hl2
         go_wp2
         go_quiet ((go_at_call 148; exact Calls.quiet_of_same (lessInt_any _ _ _)))
         go_wp2
         go_roundw
         case rel => exact ⟨t + 1, (S' ++ [y]) ++ x :: R, by omega, by omega, by go_num, HPP.out, HFIN.out, by rw [HR.out]; simpa using HOW.out.drewn _, gbi_drew HGB.out _⟩
         case measure => simp [intOf]; omega
  · have htm : t = n := by omega
    subst htm
    rw [List.take_of_length_le (by omega)] at hperm
    rw [List.drop_of_length_le (by omega), List.append_nil] at how
    go_wp2
    first | go_end0 | refine bodyPost_ret (results_none rfl _ _ _) rfl ?_
    exact ⟨rfl, T, hperm, hsort, how, hgb⟩
set_option maxHeartbeats 1600000 in
theorem pdqI_any (g n cap : Nat) (lim : Int) (L : List Int) (w : World) (hl : L.length = n) (hn1 : 1 ≤ n) (hn : n ≤ 12) (hB : Blk w g (ci L)) :
 Calls Tryz.prog 136 #[.slice (some ⟨g, 0, none⟩) n cap, .int .i64 0, .int .i64 (n : Int), .int .i64 lim] w fun e w' =>
  e = .returned (.tuple #[]) ∧ ∃ M, M.Perm L ∧ upI M ∧ Blk w' g (ci M) ∧ w.grownBy w' (some g) := by
 have h0 : (n : Int) ≤ 12 := by omega
 have HB := hide hB
 clear hB
 go_enter Tryz.func136, Tryz.ntmps136
 go_wp2
 refine wp_loop_rounds 1 ?_
 rw [rounds_succ]
 go_wp2_with fail
 refine (insI_any g n cap L _ hl hn1 (by omega) HB.out).mono ?_
 rintro e w1 ⟨rfl, M, h1, h2, h3, h4⟩
 go_wp2
 first | go_end0 | refine bodyPost_ret (results_none rfl _ _ _) rfl ?_
 exact ⟨rfl, M, h1, h2, h3, h4⟩
set_option maxRecDepth 100000 in
set_option maxHeartbeats 1600000 in
theorem len64_any (n : Nat) (hn : n ≤ 12) (w : World) : Calls Tryz.prog 152 #[.int .u64 (n : Int)] w fun e w' => (∃ k, e = .returned (.int .i64 k)) ∧ w' = w := by
 obtain rfl | rfl | rfl | rfl | rfl | rfl | rfl | rfl | rfl | rfl | rfl | rfl | rfl : n = 0 ∨ n = 1 ∨ n = 2 ∨ n = 3 ∨ n = 4 ∨ n = 5 ∨ n = 6 ∨ n = 7 ∨ n = 8 ∨ n = 9 ∨ n = 10 ∨ n = 11 ∨ n = 12 := by omega
 all_goals
  go_enter Tryz.func152, Tryz.ntmps152
  go_wp2
  go_ret
  exact ⟨⟨_, rfl⟩, rfl⟩
set_option maxHeartbeats 1600000 in
theorem len_any (n : Nat) (hn : n ≤ 12) (w : World) : Calls Tryz.prog 137 #[.int .u64 (n : Int)] w fun e w' => (∃ k, e = .returned (.int .i64 k)) ∧ w' = w := by
 go_enter Tryz.func137, Tryz.ntmps137
 go_wp2_with (go_at_call 152; refine (len64_any n hn _).mono ?_; rintro e w' ⟨⟨k, rfl⟩, rfl⟩)
 go_ret
 exact ⟨⟨_, rfl⟩, rfl⟩
set_option maxHeartbeats 1600000 in
theorem sortI_any (g n cap : Nat) (L : List Int) (w : World) (hl : L.length = n) (hn1 : 1 ≤ n) (hn : n ≤ 12) (hB : Blk w g (ci L)) :
 Calls Tryz.prog 122 #[.slice (some ⟨g, 0, none⟩) n cap] w fun e w' =>
  e = .returned (.tuple #[]) ∧ ∃ M, M.Perm L ∧ upI M ∧ Blk w' g (ci M) ∧ w.grownBy w' (some g) := by
 have HB := hide hB
 clear hB
 go_enter Tryz.func122, Tryz.ntmps122
 go_wp2_with (first
  | (go_at_call 137; refine (len_any n hn _).mono ?_; rintro e w' ⟨⟨k, rfl⟩, rfl⟩)
  | (go_at_call 136; refine (pdqI_any g n cap _ L _ hl hn1 hn HB.out).mono ?_; rintro e w1 ⟨rfl, M, h1, h2, h3, h4⟩))
 first | go_end0 | refine bodyPost_ret (results_none rfl _ _ _) rfl ?_
 exact ⟨rfl, M, h1, h2, h3, h4⟩
end Go.Proofs.YtcblpoeeembniabGreatDoor

/- Plain facts on sorting places by their keys: the order, and what one insertion does. -/
namespace Go.Proofs.YtcblpoeeembniabGreatDoor

def key (keys : List Int) (p : Nat) : Int := keys.getD p 0
/-- p's key comes ahead of q's. -/
def lts (keys : List Int) (dn : Bool) (p q : Nat) : Bool := if dn then decide (key keys q < key keys p) else decide (key keys p < key keys q)
/-- p stands ahead of q: by its key, or where the keys are equal by its place. -/
def bef (keys : List Int) (dn : Bool) (p q : Nat) : Prop := lts keys dn p q = true ∨ (lts keys dn q p = false ∧ p < q)

theorem bef_trans {keys : List Int} {dn : Bool} {p q r : Nat} (h : bef keys dn p q) (h' : bef keys dn q r) : bef keys dn p r := by
 unfold bef lts at *
 cases dn <;> simp at * <;> omega
theorem bef_irr {keys : List Int} {dn : Bool} {p : Nat} (h : bef keys dn p p) : False := by
 unfold bef lts at *
 cases dn <;> simp at *
theorem bef_total {keys : List Int} {dn : Bool} {p q : Nat} (h : p ≠ q) : bef keys dn p q ∨ bef keys dn q p := by
 unfold bef lts at *
 cases dn <;> simp at * <;> omega
theorem lts_of_bef {keys : List Int} {dn : Bool} {p q : Nat} (h : bef keys dn p q) : lts keys dn q p = false := by
 unfold bef lts at *
 cases dn <;> simp at * <;> omega
theorem bef_of_not {keys : List Int} {dn : Bool} {p q : Nat} (h : lts keys dn q p = false) (hpq : p < q) : bef keys dn p q := Or.inr ⟨h, hpq⟩
theorem not_lts_trans {keys : List Int} {dn : Bool} {x y s : Nat} (h : lts keys dn x y = false) (h' : bef keys dn s y) : lts keys dn x s = false := by
 unfold bef lts at *
 cases dn <;> simp at * <;> omega

/-- One insertion: S, then x, then R, where S and R are the two parts of what was sorted. -/
theorem ins_done {keys : List Int} {dn : Bool} {S R : List Nat} {x : Nat} (hT : (S ++ R).Pairwise (bef keys dn)) (hlt : ∀ t ∈ S ++ R, t < x) (hR : ∀ r ∈ R, lts keys dn x r = true)
 (hS : S = [] ∨ ∃ S' y, S = S' ++ [y] ∧ lts keys dn x y = false) : (S ++ x :: R).Pairwise (bef keys dn) := by
 rw [List.pairwise_append] at hT ⊢
 obtain ⟨h1, h2, h3⟩ := hT
 have hSx : ∀ s ∈ S, bef keys dn s x := by
  intro s hs
  refine bef_of_not ?_ (hlt s (List.mem_append_left _ hs))
  rcases hS with rfl | ⟨S', y, rfl, hy⟩
  · simp at hs
  · rcases List.mem_append.1 hs with hs' | hs'
    · rw [List.pairwise_append] at h1
      exact not_lts_trans hy (h1.2.2 s hs' y (by simp))
    · have : s = y := by simpa using hs'
      rw [this]; exact hy
 refine ⟨h1, ?_, ?_⟩
 · rw [List.pairwise_cons]
   exact ⟨fun r hr => Or.inl (hR r hr), h2⟩
 · intro s hs y hy
   rcases List.mem_cons.1 hy with rfl | hy
   · exact hSx s hs
   · exact h3 s hs y hy

/-- Two orders of the same places, both sorted, are one. -/
theorem sorted_unique {keys : List Int} {dn : Bool} {l l' : List Nat} (hp : l.Perm l') (h : l.Pairwise (bef keys dn)) (h' : l'.Pairwise (bef keys dn)) : l = l' := by
 refine List.Perm.eq_of_pairwise (le := bef keys dn) ?_ h h' hp
 intro a b _ _ hab hba
 exact (bef_irr (bef_trans hab hba)).elim

/-- The sorted places. -/
def sortP (keys : List Int) (dn : Bool) (ps : List Nat) : List Nat := ps.mergeSort (fun p q => lts keys dn p q || (!lts keys dn q p && decide (p ≤ q)))

theorem sortP_perm (keys : List Int) (dn : Bool) (ps : List Nat) : (sortP keys dn ps).Perm ps := List.mergeSort_perm _ _

theorem sortP_sorted (keys : List Int) (dn : Bool) (ps : List Nat) (hnd : ps.Nodup) : (sortP keys dn ps).Pairwise (bef keys dn) := by
 have h := List.pairwise_mergeSort (le := fun p q => lts keys dn p q || (!lts keys dn q p && decide (p ≤ q)))
  (fun a b c h1 h2 => by unfold lts at *; cases dn <;> simp at * <;> omega)
  (fun a b => by unfold lts at *; cases dn <;> simp at * <;> omega) ps
 have hnd' : (sortP keys dn ps).Nodup := (sortP_perm keys dn ps).nodup_iff.2 hnd
 refine List.Pairwise.imp₂ ?_ h hnd'
 intro a b hab hne
 unfold bef lts at *
 cases dn <;> simp at * <;> omega

theorem sortP_eq {keys : List Int} {dn : Bool} {ps l : List Nat} (hnd : ps.Nodup) (hp : l.Perm ps) (h : l.Pairwise (bef keys dn)) : l = sortP keys dn ps :=
 sorted_unique (hp.trans (sortP_perm keys dn ps).symm) h (sortP_sorted keys dn ps hnd)
end Go.Proofs.YtcblpoeeembniabGreatDoor

/- How two places are compared by their keys: the library's Compare at two ints, and the program's two function literals over it. -/
namespace Go.Proofs.YtcblpoeeembniabGreatDoor
open Go.RowKit

def cmpI (x y : Int) : Int := if x < y then -1 else if y < x then 1 else 0

theorem compare_any (x y : Int) (w : World) :
 Calls Tryz.prog 67 #[.int .i64 x, .int .i64 y] w fun e w' => e = .returned (.int .i64 (cmpI x y)) ∧ w' = w := by
 have hx : (x != x) = false := by simp
 have hy : (y != y) = false := by simp
 rcases (show x < y ∨ x = y ∨ y < x from by omega) with h | h | h
 · have e : cmpI x y = -1 := by unfold cmpI; rw [if_pos h]
   rw [e]
   clear e
   go_enter Tryz.func67, Tryz.ntmps67
   go_wp2
   go_ret
   exact ⟨rfl, rfl⟩
 · subst h
   have e : cmpI x x = 0 := by unfold cmpI; rw [if_neg (by omega), if_neg (by omega)]
   rw [e]
   clear e
   have h1 : ¬ x < x := by omega
   go_enter Tryz.func67, Tryz.ntmps67
   go_wp2
   go_ret
   exact ⟨rfl, rfl⟩
 · have e : cmpI x y = 1 := by unfold cmpI; rw [if_neg (by omega), if_pos h]
   have h1 : ¬ x < y := by omega
   rw [e]
   clear e
   go_enter Tryz.func67, Tryz.ntmps67
   go_wp2
   go_ret
   exact ⟨rfl, rfl⟩

/-- The keys lie where the function literal looks: behind the variable at 'bx'. -/
def Keys (w : World) (bx : Nat) (ak : Option Addr) (nk ck : Nat) (keys : List Int) : Prop :=
 w.cell? ⟨bx, 0, none⟩ = some (.slice ak nk ck) ∧ Rd w ak nk keys

theorem Keys.drewN {w : World} {bx : Nat} {ak : Option Addr} {nk ck : Nat} {keys : List Int} (h : Keys w bx ak nk ck keys) (n : Nat) : Keys (w.drewN n) bx ak nk ck keys := h

end Go.Proofs.YtcblpoeeembniabGreatDoor

/- A row of places in memory, and small facts on lists that the sort's walks lean on. -/
namespace Go.Proofs.YtcblpoeeembniabGreatDoor
open Go.RowKit

/-- The places as the cells hold them. -/
def cellsN (l : List Nat) : List Value := l.map fun (p : Nat) => Value.int .i64 (p : Int)

theorem cellsN_at (l : List Nat) (i : Nat) (h : i < l.length) : (cellsN l)[i]? = some (.int .i64 (l[i] : Int)) := by simp [cellsN, h]
theorem take1_sorted (keys : List Int) (dn : Bool) (M : List Nat) : (M.take 1).Pairwise (bef keys dn) := by
 cases M with
 | nil => simp
 | cons x r => simp
theorem cut_one (P M Q : List Nat) (t : Nat) : P ++ M.take t ++ (M.drop t ++ Q) = P ++ M ++ Q := by
 rw [List.append_assoc, ← List.append_assoc (M.take t), List.take_append_drop, List.append_assoc]
theorem take_lt {M : List Nat} (hM : M.Pairwise (· < ·)) (t : Nat) (h : t < M.length) : ∀ y ∈ M.take t, y < M[t] := by
 intro y hy
 obtain ⟨i, hi, rfl⟩ := List.mem_take_iff_getElem.1 hy
 exact List.pairwise_iff_getElem.1 hM i t (by omega) h (by omega)

theorem Keys.grown {w w' : World} {g bx : Nat} {ak : Option Addr} {nk ck : Nat} {keys : List Int} (h : Keys w bx ak nk ck keys) (hg : w.grownBy w' (some g)) (hbx : bx ≠ g) (hak : ∀ x, ak = some x → x.block ≠ g) : Keys w' bx ak nk ck keys :=
 ⟨hg.cell h.1 (by simpa using hbx), h.2.grown hg hak⟩

theorem cmp_lt_up (keys : List Int) (p q : Nat) : (cmpI (keys.getD p 0) (keys.getD q 0) < 0) ↔ lts keys false p q = true := by
 unfold cmpI lts key; simp; split <;> (try split) <;> omega
theorem cmp_lt_down (keys : List Int) (p q : Nat) : (cmpI (keys.getD q 0) (keys.getD p 0) < 0) ↔ lts keys true p q = true := by
 unfold cmpI lts key; simp; split <;> (try split) <;> omega

theorem own_at {w : World} {base g n cap : Nat} {l : List Nat} (h : w.ownsRow base 3 1 (.slice (some ⟨g, 0, none⟩) n cap) n (cellsN l)) (i : Nat) (hi : i < l.length) : w.cell? ⟨g, i, none⟩ = some (.int .i64 (l[i] : Int)) := by
 have hl : l.length = n := by have := h.1; simpa [cellsN] using this
 rw [h.cellAt i (by omega), cellsN_at l i hi]
theorem own_put {w : World} {base g n cap : Nat} {l : List Nat} (h : w.ownsRow base 3 1 (.slice (some ⟨g, 0, none⟩) n cap) n (cellsN l)) (i p : Nat) : (w.setCell ⟨g, i, none⟩ (.int .i64 (p : Int))).ownsRow base 3 1 (.slice (some ⟨g, 0, none⟩) n cap) n (cellsN (l.set i p)) := by
 have := (h.stored i (.int .i64 (p : Int))).1
 have e : (cellsN l).set i (.int .i64 (p : Int)) = cellsN (l.set i p) := by simp [cellsN, List.map_set]
 rw [e] at this
 exact this
theorem own_cap {w : World} {base e size n g cap : Nat} {xs : List Value} (h : w.ownsRow base e size (.slice (some ⟨g, 0, none⟩) n cap) n xs) : n ≤ cap ∧ cap ≤ 9223372036854775807 := by
 rcases h.2 with ⟨h', _⟩ | ⟨g', cap', cur, h1, h2, h3, h4, h5, _⟩
 · cases h'
 · cases h1
   exact ⟨h4, h5⟩
theorem own_less {w : World} {base base' e size n : Nat} {v : Value} {xs : List Value} (h : w.ownsRow base e size v n xs) (hb : base' ≤ base) : w.ownsRow base' e size v n xs := by
 refine ⟨h.1, ?_⟩
 rcases h.2 with h' | ⟨g, cap, cur, h1, h2, h3⟩
 · exact Or.inl h'
 · exact Or.inr ⟨g, cap, cur, h1, Nat.le_trans hb h2, h3⟩
theorem own_drew {w : World} {base e size n : Nat} {v : Value} {xs : List Value} (h : w.ownsRow base e size v n xs) (m : Nat) : (w.drewN m).ownsRow base e size v n xs := h
theorem gb_drew {w w' : World} {row : Option Nat} (h : w.grownBy w' row) (m : Nat) : w.grownBy (w'.drewN m) row := ⟨h.os, h.tape, h.output, h.size, h.block⟩

/-- Two neighbours change their places. -/
theorem swap_mid (P S R : List Nat) (y x : Nat) (i : Nat) (h : i = P.length + S.length) : ((P ++ (S ++ [y]) ++ x :: R).set (i + 1) y).set i x = P ++ S ++ x :: (y :: R) := by
 subst h
 have e1 : P ++ (S ++ [y]) ++ x :: R = (P ++ S) ++ (y :: x :: R) := by simp
 rw [e1, List.set_append_right _ _ (by rw [List.length_append]; omega), List.set_append_right _ _ (by rw [List.length_append]; omega)]
 simp
theorem nil_or_last (S : List Nat) : S = [] ∨ ∃ S' y, S = S' ++ [y] := by
 rcases List.eq_nil_or_concat S with h | ⟨S', y, h⟩
 · exact Or.inl h
 · exact Or.inr ⟨S', y, by rw [h, List.concat_eq_append]⟩
theorem ins_perm (S R : List Nat) (x : Nat) : (S ++ x :: R).Perm (S ++ R ++ [x]) := by
 rw [List.append_assoc]
 exact (List.perm_append_comm (l₁ := [x]) (l₂ := R)).append_left S
theorem mid_x (P S R : List Nat) (x y : Nat) : (P ++ (S ++ [y]) ++ x :: R)[P.length + S.length + 1]? = some x := by
 rw [List.getElem?_append_right (by simp; omega)]
 have e : P.length + S.length + 1 - (P ++ (S ++ [y])).length = 0 := by simp; omega
 rw [e]; rfl
theorem mid_y (P S R : List Nat) (x y : Nat) : (P ++ (S ++ [y]) ++ x :: R)[P.length + S.length]? = some y := by
 have e1 : P ++ (S ++ [y]) ++ x :: R = (P ++ S) ++ (y :: x :: R) := by simp
 rw [e1, List.getElem?_append_right (by simp)]
 have e : P.length + S.length - (P ++ S).length = 0 := by simp
 rw [e]; rfl
theorem own_get {w : World} {base g n cap : Nat} {l : List Nat} (h : w.ownsRow base 3 1 (.slice (some ⟨g, 0, none⟩) n cap) n (cellsN l)) (i p : Nat) (hp : l[i]? = some p) : w.cell? ⟨g, i, none⟩ = some (.int .i64 (p : Int)) := by
 obtain ⟨hi, rfl⟩ := List.getElem?_eq_some_iff.1 hp
 exact own_at h i hi

theorem row_step (P R T : List Nat) (x t : Nat) (h : t < R.length) : P ++ R.take t ++ R[t] :: x :: T = P ++ R.take (t + 1) ++ x :: T := by
 rw [List.take_succ_eq_append_getElem h]
 simp only [List.append_assoc, List.cons_append, List.nil_append]
theorem at_L (P L S Q : List Nat) (q : Nat) (h : q < L.length) : (P ++ L ++ S ++ Q)[P.length + q]? = some L[q] := by
 have e : P ++ L ++ S ++ Q = P ++ (L ++ (S ++ Q)) := by simp
 rw [e, List.getElem?_append_right (by omega)]
 have e2 : P.length + q - P.length = q := by omega
 rw [e2, List.getElem?_append_left h, List.getElem?_eq_getElem h]
theorem at_y (P L Q : List Nat) (y : Nat) : (P ++ L ++ [y] ++ Q)[P.length + L.length]? = some y := by
 have e : P ++ L ++ [y] ++ Q = (P ++ L) ++ y :: Q := by simp
 rw [e, List.getElem?_append_right (by simp)]
 have e2 : P.length + L.length - (P ++ L).length = 0 := by simp
 rw [e2]; rfl
theorem at_RR (P L R Q : List Nat) (q : Nat) (h : q < R.length) : (P ++ L ++ R ++ Q)[P.length + L.length + q]? = some R[q] := by
 have e : P ++ L ++ R ++ Q = (P ++ L) ++ (R ++ Q) := by simp
 rw [e, List.getElem?_append_right (by rw [List.length_append]; omega)]
 have e2 : P.length + L.length + q - (P ++ L).length = q := by rw [List.length_append]; omega
 rw [e2, List.getElem?_append_left h, List.getElem?_eq_getElem h]
theorem at_x (P R Q : List Nat) (x : Nat) : (P ++ [x] ++ R ++ Q)[P.length]? = some x := by
 have e : P ++ [x] ++ R ++ Q = P ++ x :: (R ++ Q) := by simp
 rw [e, List.getElem?_append_right (Nat.le_refl _), Nat.sub_self]; rfl
theorem at_R (P R Q : List Nat) (x q : Nat) (h : q < R.length) : (P ++ [x] ++ R ++ Q)[P.length + 1 + q]? = some R[q] := by
 have e : P ++ [x] ++ R ++ Q = (P ++ [x]) ++ (R ++ Q) := by simp
 rw [e, List.getElem?_append_right (by rw [List.length_append, List.length_singleton]; omega)]
 have e2 : P.length + 1 + q - (P ++ [x]).length = q := by rw [List.length_append, List.length_singleton]; omega
 rw [e2, List.getElem?_append_left h, List.getElem?_eq_getElem h]
theorem at_1 (L M R : List Nat) (x z : Nat) (i : Nat) (h : i = L.length) : (L ++ x :: (M ++ z :: R))[i]? = some x := by
 subst h; rw [List.getElem?_append_right (Nat.le_refl _), Nat.sub_self]; rfl
theorem at_2 (L M R : List Nat) (x z : Nat) (j : Nat) (h : j = L.length + 1 + M.length) : (L ++ x :: (M ++ z :: R))[j]? = some z := by
 have e : L ++ x :: (M ++ z :: R) = (L ++ x :: M) ++ z :: R := by simp
 rw [e, List.getElem?_append_right (by simp; omega)]
 have e2 : j - (L ++ x :: M).length = 0 := by simp; omega
 rw [e2]; rfl
theorem swap2 (L M R : List Nat) (x z : Nat) (i j : Nat) (hi : i = L.length) (hj : j = L.length + 1 + M.length) : ((L ++ x :: (M ++ z :: R)).set i z).set j x = L ++ z :: (M ++ x :: R) := by
 subst hi
 rw [List.set_append_right _ _ (Nat.le_refl _), Nat.sub_self, List.set_cons_zero]
 have e : L ++ z :: (M ++ z :: R) = (L ++ z :: M) ++ z :: R := by simp
 rw [e, List.set_append_right _ _ (by simp; omega)]
 have e2 : j - (L ++ z :: M).length = 0 := by simp; omega
 rw [e2, List.set_cons_zero]
 simp

/-- The places as numbers. -/
def ints (l : List Nat) : List Int := l.map fun (p : Nat) => (p : Int)
theorem cells_ints (l : List Nat) : (ints l).map (Value.int .i64) = cellsN l := by simp [ints, cellsN]
theorem Rd.of_cells {w : World} {base g n cap : Nat} {l : List Nat} (h : w.ownsRow base 3 1 (.slice (some ⟨g, 0, none⟩) n cap) n (cellsN l)) : Rd w (some ⟨g, 0, none⟩) n (ints l) := by
 refine Rd.of_owns (base := base) (cap := cap) ?_
 rw [cells_ints]; exact h
theorem ints_at (l : List Nat) (i : Nat) (h : i < l.length) : (ints l).getD i 0 = (l[i] : Int) := by simp [ints, h]
theorem Rd.cell {w : World} {b off n : Nat} {l : List Nat} (h : Rd w (some ⟨b, off, none⟩) n (ints l)) (i : Nat) (hi : i < n) (hl : i < l.length) : w.cell? ⟨b, off + i, none⟩ = some (.int .i64 (l[i] : Int)) := by
 obtain ⟨b', off', e, hc⟩ := h.2 i hi
 cases e
 rw [hc, ints_at l i hl]
theorem Rd.take {w : World} {b off n : Nat} {l : List Nat} (h : Rd w (some ⟨b, off, none⟩) n (ints l)) (k : Nat) (hk : k ≤ n) : Rd w (some ⟨b, off, none⟩) k (ints (l.take k)) := by
 have hl : l.length = n := by have := h.1; simpa [ints] using this
 refine ⟨by simp [ints]; omega, fun i hi => ⟨b, off, rfl, ?_⟩⟩
 rw [h.cell i (by omega) (by omega), ints_at _ i (by rw [List.length_take]; omega)]
 simp
theorem Rd.drop {w : World} {b off n : Nat} {l : List Nat} (h : Rd w (some ⟨b, off, none⟩) n (ints l)) (k : Nat) (hk : k ≤ n) : Rd w (some ⟨b, off + k, none⟩) (n - k) (ints (l.drop k)) := by
 have hl : l.length = n := by have := h.1; simpa [ints] using this
 refine ⟨by simp [ints]; omega, fun i hi => ⟨b, off + k, rfl, ?_⟩⟩
 rw [ints_at _ i (by rw [List.length_drop]; omega), Nat.add_assoc, h.cell (k + i) (by omega) (by omega)]
 simp

end Go.Proofs.YtcblpoeeembniabGreatDoor

/- Plain facts on merging two sorted rows of places. -/
namespace Go.Proofs.YtcblpoeeembniabGreatDoor

/-- p stands ahead of q, or is q. -/
def leB (keys : List Int) (dn : Bool) (p q : Nat) : Bool := lts keys dn p q || (!lts keys dn q p && decide (p ≤ q))

theorem leB_lt {keys : List Int} {dn : Bool} {p q : Nat} (h : p < q) : leB keys dn p q = !lts keys dn q p := by
 unfold leB lts
 rw [Bool.eq_iff_iff]
 cases dn <;> simp <;> omega

theorem sortP_short (keys : List Int) (dn : Bool) (ps : List Nat) (h : ps.length < 2) : sortP keys dn ps = ps := by
 unfold sortP
 match ps, h with
 | [], _ => simp
 | [x], _ => simp

theorem bef_leB {keys : List Int} {dn : Bool} {p q : Nat} (h : bef keys dn p q) : leB keys dn p q = true := by
 unfold bef leB lts at *
 cases dn <;> simp at * <;> omega

/-- The two halves sorted and merged are the whole sorted. -/
theorem merge_sorted (keys : List Int) (dn : Bool) (ps : List Nat) (k : Nat) (hps : ps.Pairwise (· < ·)) : (sortP keys dn (ps.take k)).merge (sortP keys dn (ps.drop k)) (leB keys dn) = sortP keys dn ps := by
 have hnd : ps.Nodup := hps.imp (fun h => Nat.ne_of_lt h)
 have h1 : (ps.take k).Nodup := hnd.sublist (List.take_sublist _ _)
 have h2 : (ps.drop k).Nodup := hnd.sublist (List.drop_sublist _ _)
 have p0 : ((sortP keys dn (ps.take k)).merge (sortP keys dn (ps.drop k)) (leB keys dn)).Perm ps := by
  refine (List.merge_perm_append _).trans ?_
  have := (sortP_perm keys dn (ps.take k)).append (sortP_perm keys dn (ps.drop k))
  rwa [List.take_append_drop] at this
 refine sortP_eq hnd p0 ?_
 have hpw := List.pairwise_merge (le := leB keys dn) (fun a b c h1 h2 => by unfold leB lts at *; cases dn <;> simp at * <;> omega) (fun a b => by unfold leB lts at *; cases dn <;> simp at * <;> omega)
  (sortP keys dn (ps.take k)) (sortP keys dn (ps.drop k)) ((sortP_sorted keys dn _ h1).imp bef_leB) ((sortP_sorted keys dn _ h2).imp bef_leB)
 refine List.Pairwise.imp₂ ?_ hpw (p0.nodup_iff.2 hnd)
 intro a b hab hne
 unfold leB bef lts at *
 cases dn <;> simp at * <;> omega

theorem mg_a (le : Nat → Nat → Bool) (o a F : List Nat) (i : Nat) (hi : i < a.length) (h : o ++ (a.drop i).merge [] le = F) : (o ++ [a[i]]) ++ (a.drop (i + 1)).merge [] le = F := by
 rw [List.drop_eq_getElem_cons hi] at h
 rw [← h]; simp
theorem mg_b (le : Nat → Nat → Bool) (o b F : List Nat) (j : Nat) (hj : j < b.length) (h : o ++ ([] : List Nat).merge (b.drop j) le = F) : (o ++ [b[j]]) ++ ([] : List Nat).merge (b.drop (j + 1)) le = F := by
 rw [List.drop_eq_getElem_cons hj] at h
 rw [← h]; simp
theorem mg_ab (le : Nat → Nat → Bool) (o a b F : List Nat) (i j : Nat) (hi : i < a.length) (hj : j < b.length) (hle : le a[i] b[j] = true) (h : o ++ (a.drop i).merge (b.drop j) le = F) : (o ++ [a[i]]) ++ (a.drop (i + 1)).merge (b.drop j) le = F := by
 rw [List.drop_eq_getElem_cons hi, List.drop_eq_getElem_cons hj, List.cons_merge_cons, if_pos hle] at h
 rw [← h, List.drop_eq_getElem_cons hj]; simp
theorem mg_ba (le : Nat → Nat → Bool) (o a b F : List Nat) (i j : Nat) (hi : i < a.length) (hj : j < b.length) (hle : le a[i] b[j] = false) (h : o ++ (a.drop i).merge (b.drop j) le = F) : (o ++ [b[j]]) ++ (a.drop i).merge (b.drop (j + 1)) le = F := by
 rw [List.drop_eq_getElem_cons hi, List.drop_eq_getElem_cons hj, List.cons_merge_cons, if_neg (by simp [hle])] at h
 rw [← h, List.drop_eq_getElem_cons hi]; simp
end Go.Proofs.YtcblpoeeembniabGreatDoor

/- The model's sort of places by their keys: l1Places, l1Merge, SortUp, SortDown. -/
namespace Go.Proofs.YtcblpoeeembniabGreatDoor
open Go.RowKit

theorem app_int {w wr w1 : World} {g cap n : Nat} {v' : Value} {ps : List Nat} {x : Nat} {t : TypeId} (hn : ps.length = n)
 (hown : wr.ownsRow w.heap.size 3 1 (.slice (some ⟨g, 0, none⟩) n cap) n (cellsN ps)) (hbel : Below w.heap.size w wr)
 (h1 : w1.ownsRow w.heap.size 3 1 v' (n + 1) (cellsN ps ++ [.int .i64 (x : Int)])) (h2 : (wr.alloc (.cells #[.int .i64 (x : Int)] t)).grownBy w1 (Value.slice (some ⟨g, 0, none⟩) n cap).ownBlock)
 (h3 : v' = .slice none 0 0 ↔ Value.slice (some ⟨g, 0, none⟩) n cap = .slice none 0 0 ∧ 1 = 0) :
 ∃ g' cap', v' = .slice (some ⟨g', 0, none⟩) (ps ++ [x]).length cap' ∧ w1.ownsRow w.heap.size 3 1 (.slice (some ⟨g', 0, none⟩) (ps ++ [x]).length cap') (ps ++ [x]).length (cellsN (ps ++ [x])) ∧ Below w.heap.size w w1 := by
 have hne : ¬ v' = .slice none 0 0 := fun h => by have := (h3.1 h).2; omega
 obtain ⟨g', cap', rfl⟩ := own_shape h1 hne
 have hl : (ps ++ [x]).length = n + 1 := by simp [hn]
 refine ⟨g', cap', by rw [hl], ?_, ?_⟩
 · rw [hl]; simpa [cellsN] using h1
 · refine (hbel.alloc hbel.size (.cells #[.int .i64 (x : Int)] t)).grown h2 (by have := hbel.size; simp; omega) ?_
   intro j hj
   have : g = j := by simpa [Value.ownBlock] using hj
   rw [← this]
   exact own_base hown

set_option maxHeartbeats 800000 in
theorem l1Places_any (n : Nat) (w : World) (hn : n ≤ 1048576) :
 Calls Tryz.prog 124 #[.int .i64 (n : Int)] w fun e w' => ∃ g cap, e = .returned (.slice (some ⟨g, 0, none⟩) n cap) ∧
  w'.ownsRow w.heap.size 3 1 (.slice (some ⟨g, 0, none⟩) n cap) n (cellsN (List.range n)) ∧ Below w.heap.size w w' := by
 obtain ⟨i0, hi, hz0, hz1, hz2⟩ := info_parts Tryz.infoInt
 have hown0 : (w.alloc (.cells #[] 3)).ownsRow w.heap.size 3 1 (.slice (some ⟨w.heap.size, 0, none⟩) 0 0) 0 [] := World.ownsRow_lit w #[] 0 (Nat.le_refl _) (Nat.zero_le _) rfl
 go_enter Tryz.func124, Tryz.ntmps124
 go_wp2
 go_loopw [3, 4] (fun o i wr => ∃ k g cap : Nat, k ≤ n ∧ i = .int .i64 (k : Int) ∧ o = .slice (some ⟨g, 0, none⟩) k cap ∧ wr.ownsRow w.heap.size 3 1 (.slice (some ⟨g, 0, none⟩) k cap) k (cellsN (List.range k)) ∧ Below w.heap.size w wr) (fun _ i _ => n - (intOf i).toNat)
 case atStart => exact ⟨0, w.heap.size, 0, Nat.zero_le _, rfl, rfl, hown0, (Below.refl _ _).alloc (Nat.le_refl _) _⟩
 case round =>
  obtain ⟨k, g, cap, hk, rfl, rfl, hown, hbel⟩ := hrel
  clear hown0
  have hsz := hbel.size
  by_cases hlt : k < n
  · have hl : (List.range k).length = k := List.length_range
    have HL := hide hl
    clear hl
    go_wp2_with (first
     | (at_builtin; refine wpList_append_own _ rfl _ _ 29 rfl w.heap.size 3 i0 (.int .i64 0) 1 8 Tryz.underlying29 hi hz0 hz1 hz2 rfl (by decide) (.slice (some ⟨g, 0, none⟩) k cap) k (cellsN (List.range k)) rfl (hown.alloc _) ⟨wr.heap.size, 0, none⟩ 1 1 [.int .i64 (k : Int)] rfl rfl (cell_one_new _ _ _) (by simp [Value.oneCell']) (by unfold maxLen; omega) (by omega) (by simp; omega) ?_; intro v' w1 h1 h2 h3)
     | go_in)
    obtain ⟨g', cap', hv, ho, hb⟩ := app_int HL.out hown hbel h1 h2 h3
    have hlen : (List.range k ++ [k]).length = k + 1 := by simp
    rw [hlen] at hv ho
    go_roundw
    case rel => exact ⟨k + 1, g', cap', by omega, by go_num, hv, by rw [List.range_succ]; exact ho, hb⟩
    case measure => simp [intOf]; omega
  · have hkn : k = n := by omega
    subst hkn
    go_wp2
    go_ret
    exact ⟨g, cap, rfl, hown, hbel⟩

def MergeSaid (N : Nat) : Prop :=
 ∀ (ps : List Nat) (b off cap n : Nat) (ak : Option Addr) (nk ck : Nat) (keys : List Int) (dn : Bool) (w : World), ps.length = n → n ≤ N → n ≤ cap → cap ≤ 9223372036854775807 → n ≤ 1048576 → ps.Pairwise (· < ·) → (∀ p ∈ ps, p < nk) → nk ≤ 1048576 → Rd w ak nk keys → Rd w (some ⟨b, off, none⟩) n (ints ps) →
  Calls Tryz.prog 123 #[.slice ak nk ck, .slice (some ⟨b, off, none⟩) n cap, .bool dn] w fun e w' => ∃ g c, e = .returned (.slice (some ⟨g, 0, none⟩) n c) ∧
   w'.ownsRow w.heap.size 3 1 (.slice (some ⟨g, 0, none⟩) n c) n (cellsN (sortP keys dn ps)) ∧ Below w.heap.size w w'

set_option maxRecDepth 100000 in
set_option maxHeartbeats 1600000 in
/-- Fewer than two places: a copy. -/
theorem merge_short (ps : List Nat) (b off cap n : Nat) (ak : Option Addr) (nk ck : Nat) (keys : List Int) (dn : Bool) (w : World) (hl : ps.length = n) (hn : n < 2) (hr : Rd w (some ⟨b, off, none⟩) n (ints ps)) :
 Calls Tryz.prog 123 #[.slice ak nk ck, .slice (some ⟨b, off, none⟩) n cap, .bool dn] w fun e w' => ∃ g c, e = .returned (.slice (some ⟨g, 0, none⟩) n c) ∧
  w'.ownsRow w.heap.size 3 1 (.slice (some ⟨g, 0, none⟩) n c) n (cellsN (sortP keys dn ps)) ∧ Below w.heap.size w w' := by
 obtain ⟨i0, hi, hz0, hz1, hz2⟩ := info_parts Tryz.infoInt
 have hown0 : (w.alloc (.cells #[] 3)).ownsRow w.heap.size 3 1 (.slice (some ⟨w.heap.size, 0, none⟩) 0 0) 0 [] := World.ownsRow_lit w #[] 0 (Nat.le_refl _) (Nat.zero_le _) rfl
 have hb0 : Below w.heap.size w (w.alloc (.cells #[] 3)) := (Below.refl _ _).alloc (Nat.le_refl _) _
 rw [sortP_short keys dn ps (by omega)]
 have hr1 := hr.mono hb0
 have hnews : ∀ j u, (cellsN ps)[j]? = some u → (w.alloc (.cells #[] 3)).cell? ((⟨b, off, none⟩ : Addr).add j) = some u := by
  intro j u hj
  have hjl : j < ps.length := by have := (List.getElem?_eq_some_iff.1 hj).1; simpa [cellsN] using this
  have hcj := hr1.cell j (by omega) hjl
  rw [cellsN_at ps j hjl] at hj
  have ea : (⟨b, off, none⟩ : Addr).add j = ⟨b, off + j, none⟩ := by
   unfold Addr.add
   split
   · next h => subst h; rfl
   · rfl
  rw [ea, hcj]; exact hj
 have hone : ∀ u ∈ cellsN ps, u.oneCell' = true := by
  intro u hu
  obtain ⟨p, _, rfl⟩ := List.mem_map.1 hu
  rfl
 have hcl : (cellsN ps).length = n * 1 := by simp [cellsN, hl]
 have hlt : (n : Int) < 2 := by omega
 have HR1 := hide hr1
 have HNEWS := hide hnews
 clear hr hr1 hnews
 go_enter Tryz.func123, Tryz.ntmps123
 go_wp2_with (first
  | (at_builtin; refine wpList_append_own _ rfl _ _ 29 rfl w.heap.size 3 i0 (.int .i64 0) 1 8 Tryz.underlying29 hi hz0 hz1 hz2 rfl (by decide) (.slice (some ⟨w.heap.size, 0, none⟩) 0 0) 0 [] rfl hown0 ⟨b, off, none⟩ n cap (cellsN ps) rfl hcl HNEWS.out hone (by unfold maxLen; omega) (by omega) (by simp) ?_; intro v' w1 h1 h2 h3)
  | go_in)
 have hne : ¬ v' = .slice none 0 0 := fun h => by have := (h3.1 h).1; cases this
 have h1' : w1.ownsRow w.heap.size 3 1 v' n (cellsN ps) := by simpa using h1
 obtain ⟨g', cap', hv⟩ := own_shape h1' hne
 rw [hv] at h1' ⊢
 have hb : Below w.heap.size w w1 := hb0.grown h2 (by simp) (by intro j hj; have : w.heap.size = j := by simpa [Value.ownBlock] using hj
                                                                omega)
 clear h1 h2 h3 hne hv
 go_ret
 exact ⟨g', cap', rfl, h1', hb⟩

set_option maxRecDepth 100000 in
set_option maxHeartbeats 6400000 in
/-- Two places or more: each half sorted, the two merged. -/
theorem merge_long (N : Nat) (ih : MergeSaid N) (ps : List Nat) (b off cap n : Nat) (ak : Option Addr) (nk ck : Nat) (keys : List Int) (dn : Bool) (w : World) (hl : ps.length = n) (hN : n ≤ N + 1) (hn2 : 2 ≤ n) (hc : n ≤ cap) (hcm : cap ≤ 9223372036854775807) (hn : n ≤ 1048576) (hps : ps.Pairwise (· < ·)) (hin : ∀ p ∈ ps, p < nk) (hnk : nk ≤ 1048576) (hrk : Rd w ak nk keys) (hr : Rd w (some ⟨b, off, none⟩) n (ints ps)) :
 Calls Tryz.prog 123 #[.slice ak nk ck, .slice (some ⟨b, off, none⟩) n cap, .bool dn] w fun e w' => ∃ g c, e = .returned (.slice (some ⟨g, 0, none⟩) n c) ∧
  w'.ownsRow w.heap.size 3 1 (.slice (some ⟨g, 0, none⟩) n c) n (cellsN (sortP keys dn ps)) ∧ Below w.heap.size w w' := by
 obtain ⟨i0, hi, hz0, hz1, hz2⟩ := info_parts Tryz.infoInt
 obtain ⟨h, hh⟩ : ∃ h : Nat, (n : Int) / 2 = (h : Int) := ⟨n / 2, by omega⟩
 have hh1 : 1 ≤ h ∧ h < n ∧ 2 * h ≤ n := by omega
 have hlt : ¬ (n : Int) < 2 := by omega
 have hcne : ¬ cap = h := by omega
 have HIH := hide ih
 have HRK := hide hrk
 have HR := hide hr
 have HIN := hide hin
 have HPS := hide hps
 have HLL := hide hl
 clear ih hrk hr hl hin hps
 go_enter Tryz.func123, Tryz.ntmps123
 go_wp2_with fail
 refine (HIH.out (ps.take h) b off cap h ak nk ck keys dn w ?_ ?_ ?_ hcm ?_ ?_ ?_ hnk HRK.out (HR.out.take h (by omega))).mono ?_
 · rw [List.length_take, HLL.out]; omega
 · omega
 · omega
 · omega
 · exact HPS.out.sublist (List.take_sublist _ _)
 · exact fun p hp => HIN.out p (List.mem_of_mem_take hp)
 rintro e w1 ⟨gA, cA, rfl, hoA, hb1⟩
 have HOA := hide hoA
 have HB1 := hide hb1
 clear hoA hb1
 go_wp2_with fail
 refine (HIH.out (ps.drop h) b (off + h) (cap - h) (n - h) ak nk ck keys dn w1 ?_ ?_ ?_ ?_ ?_ ?_ ?_ hnk (HRK.out.mono HB1.out) ((HR.out.mono HB1.out).drop h (by omega))).mono ?_
 · rw [List.length_drop, HLL.out]
 · omega
 · omega
 · omega
 · omega
 · exact HPS.out.sublist (List.drop_sublist _ _)
 · exact fun p hp => HIN.out p (List.mem_of_mem_drop hp)
 rintro e w2 ⟨gB, cB, rfl, hoB, hb2⟩
 have HRA := hide ((Rd.of_cells HOA.out).mono hb2)
 have HRB := hide (Rd.of_cells hoB)
 have HB2 := hide (HB1.out.trans (hb2.mono HB1.out.size))
 have HRK2 := hide ((HRK.out.mono HB1.out).mono hb2)
 have hmrg := merge_sorted keys dn ps h HPS.out
 have hlA : (sortP keys dn (ps.take h)).length = h := by rw [(sortP_perm keys dn _).length_eq, List.length_take, HLL.out]; omega
 have hlB : (sortP keys dn (ps.drop h)).length = n - h := by rw [(sortP_perm keys dn _).length_eq, List.length_drop, HLL.out]
 have hxA : ∀ p ∈ sortP keys dn (ps.take h), p ∈ ps.take h := fun p hp => (sortP_perm keys dn _).mem_iff.1 hp
 have hxB : ∀ p ∈ sortP keys dn (ps.drop h), p ∈ ps.drop h := fun p hp => (sortP_perm keys dn _).mem_iff.1 hp
 have hinA : ∀ p ∈ sortP keys dn (ps.take h), p < nk := fun p hp => HIN.out p (List.mem_of_mem_take (hxA p hp))
 have hinB : ∀ p ∈ sortP keys dn (ps.drop h), p < nk := fun p hp => HIN.out p (List.mem_of_mem_drop (hxB p hp))
 have hAB : ∀ p ∈ sortP keys dn (ps.take h), ∀ q ∈ sortP keys dn (ps.drop h), p < q := by
  intro p hp q hq
  have hpw : (ps.take h ++ ps.drop h).Pairwise (· < ·) := by rw [List.take_append_drop]; exact HPS.out
  exact (List.pairwise_append.1 hpw).2.2 p (hxA p hp) q (hxB q hq)
 generalize hF : sortP keys dn ps = F at *
 generalize sortP keys dn (ps.take h) = A at *
 generalize sortP keys dn (ps.drop h) = B at *
 have HM := hide hmrg
 have HF := hide hF
 have HLA := hide hlA
 have HLB := hide hlB
 have HIA := hide hinA
 have HIB := hide hinB
 have HAB := hide hAB
 have hown0 : (w2.alloc (.cells #[] 3)).ownsRow w2.heap.size 3 1 (.slice (some ⟨w2.heap.size, 0, none⟩) 0 0) 0 [] := World.ownsRow_lit w2 #[] 0 (Nat.le_refl _) (Nat.zero_le _) rfl
 have HO0 := hide hown0
 clear hF hoB hb2 hmrg hlA hlB hinA hinB hAB hxA hxB HOA HB1 HR HIN HPS HLL HRK hown0 HIH
 go_wp2
 go_loopw [10, 11, 12] (fun ov iv jv wr => ∃ (i j g cp : Nat) (o : List Nat), i ≤ h ∧ j ≤ n - h ∧ o.length = i + j ∧ ov = .slice (some ⟨g, 0, none⟩) (i + j) cp ∧ iv = .int .i64 (i : Int) ∧ jv = .int .i64 (j : Int) ∧ wr.ownsRow w2.heap.size 3 1 (.slice (some ⟨g, 0, none⟩) (i + j) cp) (i + j) (cellsN o) ∧ o ++ (A.drop i).merge (B.drop j) (leB keys dn) = F ∧ Below w2.heap.size w2 wr) (fun _ iv jv _ => n - (intOf iv).toNat - (intOf jv).toNat)
 case atStart => exact ⟨0, 0, w2.heap.size, 0, [], Nat.zero_le _, Nat.zero_le _, rfl, rfl, rfl, rfl, HO0.out, HM.out, (Below.refl _ _).alloc (Nat.le_refl _) _⟩
 case round =>
  obtain ⟨i, j, g, cp, o, hih, hjn, hol, rfl, rfl, rfl, how, hnx, hbel⟩ := hrel
  have HOL := hide hol
  have HOW := hide how
  have HBW := hide hbel
  have HNXT := hide hnx
  have hsz := hbel.size
  clear hol how hbel hnx HO0 HM
  by_cases hj : j < n - h
  · have hjl : j < B.length := by rw [HLB.out]; exact hj
    have hjc : (j : Int) < ((n - h : Nat) : Int) := by omega
    have hje : ((j : Int) == ((n - h : Nat) : Int)) = false := by simp; omega
    have c1 : wr.cell? ⟨gB, j, none⟩ = some (.int .i64 (B[j] : Int)) := by
     have := (HRB.out.mono HBW.out).cell j hj hjl
     simpa using this
    have hyn := HIB.out B[j] (List.getElem_mem hjl)
    by_cases hih2 : i < h
    · have hil : i < A.length := by rw [HLA.out]; exact hih2
      have hic : (i : Int) < (h : Int) := by omega
      have hie : ((i : Int) == (h : Int)) = false := by simp; omega
      have c0 : wr.cell? ⟨gA, i, none⟩ = some (.int .i64 (A[i] : Int)) := by
       have := (HRA.out.mono HBW.out).cell i hih2 hil
       simpa using this
      have hxn := HIA.out A[i] (List.getElem_mem hil)
      have hxy := HAB.out A[i] (List.getElem_mem hil) B[j] (List.getElem_mem hjl)
      have hle := leB_lt (keys := keys) (dn := dn) hxy
      have hNA : leB keys dn A[i] B[j] = true → (o ++ [A[i]]) ++ (A.drop (i + 1)).merge (B.drop j) (leB keys dn) = F := fun h => mg_ab _ o A B F i j hil hjl h HNXT.out
      have hNB : leB keys dn A[i] B[j] = false → (o ++ [B[j]]) ++ (A.drop i).merge (B.drop (j + 1)) (leB keys dn) = F := fun h => mg_ba _ o A B F i j hil hjl h HNXT.out
      rw [hle] at hNA hNB
      obtain ⟨bk, ok, hak, ck1⟩ := (HRK2.out.mono HBW.out).2 B[j] hyn
      obtain ⟨bk', ok', hak', ck0⟩ := (HRK2.out.mono HBW.out).2 A[i] hxn
      rw [hak] at hak'
      cases hak'
      have HNA := hide hNA
      have HNB := hide hNB
      have hlts : lts keys dn B[j] A[i] = if dn then decide (keys.getD A[i] 0 < keys.getD B[j] 0) else decide (keys.getD B[j] 0 < keys.getD A[i] 0) := rfl
      generalize lts keys dn B[j] A[i] = lt at *
      generalize keys.getD B[j] 0 = ky at *
      generalize keys.getD A[i] 0 = kx at *
      generalize hgx : A[i] = x at *
      generalize hgy : B[j] = y at *
      have HLTS := hide hlts
      clear hgx hgy hle hNA hNB hlts HNXT HRK2
      subst hak
      cases dn
      · rcases (show ky < kx ∨ ky = kx ∨ kx < ky from by omega) with hk | hk | hk
        · have hd1 : decide (ky < kx) = true := by simp; omega
          have hd2 : decide (kx < ky) = false := by simp; omega
          have hl : lt = true := by rw [HLTS.out]; simp; omega
          have HNX : Hid ((o ++ [y]) ++ (A.drop i).merge (B.drop (j + 1)) (leB keys false) = F) := HNB.out (by rw [hl]; rfl)
          clear hl HLTS HNA HNB hk
          go_wp2
          go_quiet (fail)
          go_wp2_with (first
           | (at_builtin; refine wpList_append_own _ rfl _ _ 29 rfl w2.heap.size 3 i0 (.int .i64 0) 1 8 Tryz.underlying29 hi hz0 hz1 hz2 rfl (by decide) (.slice (some ⟨g, 0, none⟩) (i + j) cp) (i + j) (cellsN o) rfl ((own_drew HOW.out _).alloc _) ⟨_, 0, none⟩ 1 1 [.int .i64 (y : Int)] rfl rfl (cell_one_new _ _ _) (by simp [Value.oneCell']) (by unfold maxLen; omega) (by omega) (by simp; omega) ?_; intro v' w3 h1 h2 h3)
           | go_in)
          obtain ⟨g', cap', hv, ho, hb⟩ := app_int HOL.out (own_drew HOW.out _) (below_drewN HBW.out _) h1 h2 h3
          have hlen : (o ++ [y]).length = i + j + 1 := by simp [HOL.out]
          rw [hlen] at hv ho
          clear h1 h2 h3
          go_roundw
          case rel => exact ⟨i, j + 1, g', cap', o ++ [y], by omega, by omega, by rw [hlen]; omega, by rw [show i + (j + 1) = i + j + 1 from by omega]; exact hv, by go_num, by go_num, by rw [show i + (j + 1) = i + j + 1 from by omega]; exact ho, HNX.out, hb⟩
          case measure => simp [intOf]; omega
        · subst hk
          have hd1 : decide (ky < ky) = false := by simp
          have hl : lt = false := by rw [HLTS.out]; simp
          have HNX : Hid ((o ++ [x]) ++ (A.drop (i + 1)).merge (B.drop j) (leB keys false) = F) := HNA.out (by rw [hl]; rfl)
          clear hl HLTS HNA HNB
          go_wp2
          go_quiet (fail)
          go_wp2_with (first
           | (at_builtin; refine wpList_append_own _ rfl _ _ 29 rfl w2.heap.size 3 i0 (.int .i64 0) 1 8 Tryz.underlying29 hi hz0 hz1 hz2 rfl (by decide) (.slice (some ⟨g, 0, none⟩) (i + j) cp) (i + j) (cellsN o) rfl ((own_drew HOW.out _).alloc _) ⟨_, 0, none⟩ 1 1 [.int .i64 (x : Int)] rfl rfl (cell_one_new _ _ _) (by simp [Value.oneCell']) (by unfold maxLen; omega) (by omega) (by simp; omega) ?_; intro v' w3 h1 h2 h3)
           | go_in)
          obtain ⟨g', cap', hv, ho, hb⟩ := app_int HOL.out (own_drew HOW.out _) (below_drewN HBW.out _) h1 h2 h3
          have hlen : (o ++ [x]).length = i + j + 1 := by simp [HOL.out]
          rw [hlen] at hv ho
          clear h1 h2 h3
          go_roundw
          case rel => exact ⟨i + 1, j, g', cap', o ++ [x], by omega, by omega, by rw [hlen]; omega, by rw [show i + 1 + j = i + j + 1 from by omega]; exact hv, by go_num, by go_num, by rw [show i + 1 + j = i + j + 1 from by omega]; exact ho, HNX.out, hb⟩
          case measure => simp [intOf]; omega
        · have hd1 : decide (ky < kx) = false := by simp; omega
          have hd2 : decide (kx < ky) = true := by simp; omega
          have hl : lt = false := by rw [HLTS.out]; simp; omega
          have HNX : Hid ((o ++ [x]) ++ (A.drop (i + 1)).merge (B.drop j) (leB keys false) = F) := HNA.out (by rw [hl]; rfl)
          clear hl HLTS HNA HNB hk
          go_wp2
          go_quiet (fail)
          go_wp2_with (first
           | (at_builtin; refine wpList_append_own _ rfl _ _ 29 rfl w2.heap.size 3 i0 (.int .i64 0) 1 8 Tryz.underlying29 hi hz0 hz1 hz2 rfl (by decide) (.slice (some ⟨g, 0, none⟩) (i + j) cp) (i + j) (cellsN o) rfl ((own_drew HOW.out _).alloc _) ⟨_, 0, none⟩ 1 1 [.int .i64 (x : Int)] rfl rfl (cell_one_new _ _ _) (by simp [Value.oneCell']) (by unfold maxLen; omega) (by omega) (by simp; omega) ?_; intro v' w3 h1 h2 h3)
           | go_in)
          obtain ⟨g', cap', hv, ho, hb⟩ := app_int HOL.out (own_drew HOW.out _) (below_drewN HBW.out _) h1 h2 h3
          have hlen : (o ++ [x]).length = i + j + 1 := by simp [HOL.out]
          rw [hlen] at hv ho
          clear h1 h2 h3
          go_roundw
          case rel => exact ⟨i + 1, j, g', cap', o ++ [x], by omega, by omega, by rw [hlen]; omega, by rw [show i + 1 + j = i + j + 1 from by omega]; exact hv, by go_num, by go_num, by rw [show i + 1 + j = i + j + 1 from by omega]; exact ho, HNX.out, hb⟩
          case measure => simp [intOf]; omega
      · rcases (show ky < kx ∨ ky = kx ∨ kx < ky from by omega) with hk | hk | hk
        · have hd1 : decide (ky < kx) = true := by simp; omega
          have hd2 : decide (kx < ky) = false := by simp; omega
          have hl : lt = false := by rw [HLTS.out]; simp; omega
          have HNX : Hid ((o ++ [x]) ++ (A.drop (i + 1)).merge (B.drop j) (leB keys true) = F) := HNA.out (by rw [hl]; rfl)
          clear hl HLTS HNA HNB hk
          go_wp2
          go_quiet (fail)
          go_wp2_with (first
           | (at_builtin; refine wpList_append_own _ rfl _ _ 29 rfl w2.heap.size 3 i0 (.int .i64 0) 1 8 Tryz.underlying29 hi hz0 hz1 hz2 rfl (by decide) (.slice (some ⟨g, 0, none⟩) (i + j) cp) (i + j) (cellsN o) rfl ((own_drew HOW.out _).alloc _) ⟨_, 0, none⟩ 1 1 [.int .i64 (x : Int)] rfl rfl (cell_one_new _ _ _) (by simp [Value.oneCell']) (by unfold maxLen; omega) (by omega) (by simp; omega) ?_; intro v' w3 h1 h2 h3)
           | go_in)
          obtain ⟨g', cap', hv, ho, hb⟩ := app_int HOL.out (own_drew HOW.out _) (below_drewN HBW.out _) h1 h2 h3
          have hlen : (o ++ [x]).length = i + j + 1 := by simp [HOL.out]
          rw [hlen] at hv ho
          clear h1 h2 h3
          go_roundw
          case rel => exact ⟨i + 1, j, g', cap', o ++ [x], by omega, by omega, by rw [hlen]; omega, by rw [show i + 1 + j = i + j + 1 from by omega]; exact hv, by go_num, by go_num, by rw [show i + 1 + j = i + j + 1 from by omega]; exact ho, HNX.out, hb⟩
          case measure => simp [intOf]; omega
        · subst hk
          have hd1 : decide (ky < ky) = false := by simp
          have hl : lt = false := by rw [HLTS.out]; simp
          have HNX : Hid ((o ++ [x]) ++ (A.drop (i + 1)).merge (B.drop j) (leB keys true) = F) := HNA.out (by rw [hl]; rfl)
          clear hl HLTS HNA HNB
          go_wp2
          go_quiet (fail)
          go_wp2_with (first
           | (at_builtin; refine wpList_append_own _ rfl _ _ 29 rfl w2.heap.size 3 i0 (.int .i64 0) 1 8 Tryz.underlying29 hi hz0 hz1 hz2 rfl (by decide) (.slice (some ⟨g, 0, none⟩) (i + j) cp) (i + j) (cellsN o) rfl ((own_drew HOW.out _).alloc _) ⟨_, 0, none⟩ 1 1 [.int .i64 (x : Int)] rfl rfl (cell_one_new _ _ _) (by simp [Value.oneCell']) (by unfold maxLen; omega) (by omega) (by simp; omega) ?_; intro v' w3 h1 h2 h3)
           | go_in)
          obtain ⟨g', cap', hv, ho, hb⟩ := app_int HOL.out (own_drew HOW.out _) (below_drewN HBW.out _) h1 h2 h3
          have hlen : (o ++ [x]).length = i + j + 1 := by simp [HOL.out]
          rw [hlen] at hv ho
          clear h1 h2 h3
          go_roundw
          case rel => exact ⟨i + 1, j, g', cap', o ++ [x], by omega, by omega, by rw [hlen]; omega, by rw [show i + 1 + j = i + j + 1 from by omega]; exact hv, by go_num, by go_num, by rw [show i + 1 + j = i + j + 1 from by omega]; exact ho, HNX.out, hb⟩
          case measure => simp [intOf]; omega
        · have hd1 : decide (ky < kx) = false := by simp; omega
          have hd2 : decide (kx < ky) = true := by simp; omega
          have hl : lt = true := by rw [HLTS.out]; simp; omega
          have HNX : Hid ((o ++ [y]) ++ (A.drop i).merge (B.drop (j + 1)) (leB keys true) = F) := HNB.out (by rw [hl]; rfl)
          clear hl HLTS HNA HNB hk
          go_wp2
          go_quiet (fail)
          go_wp2_with (first
           | (at_builtin; refine wpList_append_own _ rfl _ _ 29 rfl w2.heap.size 3 i0 (.int .i64 0) 1 8 Tryz.underlying29 hi hz0 hz1 hz2 rfl (by decide) (.slice (some ⟨g, 0, none⟩) (i + j) cp) (i + j) (cellsN o) rfl ((own_drew HOW.out _).alloc _) ⟨_, 0, none⟩ 1 1 [.int .i64 (y : Int)] rfl rfl (cell_one_new _ _ _) (by simp [Value.oneCell']) (by unfold maxLen; omega) (by omega) (by simp; omega) ?_; intro v' w3 h1 h2 h3)
           | go_in)
          obtain ⟨g', cap', hv, ho, hb⟩ := app_int HOL.out (own_drew HOW.out _) (below_drewN HBW.out _) h1 h2 h3
          have hlen : (o ++ [y]).length = i + j + 1 := by simp [HOL.out]
          rw [hlen] at hv ho
          clear h1 h2 h3
          go_roundw
          case rel => exact ⟨i, j + 1, g', cap', o ++ [y], by omega, by omega, by rw [hlen]; omega, by rw [show i + (j + 1) = i + j + 1 from by omega]; exact hv, by go_num, by go_num, by rw [show i + (j + 1) = i + j + 1 from by omega]; exact ho, HNX.out, hb⟩
          case measure => simp [intOf]; omega
    · have hieq : i = h := by omega
      have hic : ¬ (i : Int) < (h : Int) := by omega
      have hie : ((i : Int) == (h : Int)) = true := by simp; omega
      have hAn : A.drop i = [] := List.drop_of_length_le (by rw [HLA.out]; omega)
      have hnx := HNXT.out
      rw [hAn] at hnx
      have hnx2 : (o ++ [B[j]]) ++ (A.drop i).merge (B.drop (j + 1)) (leB keys dn) = F := by rw [hAn]; exact mg_b _ o B F j hjl hnx
      have HNX := hide hnx2
      generalize hgy : B[j] = y at *
      clear hgy hnx hnx2 hAn HNXT hieq
      go_wp2_with (first
       | (at_builtin; refine wpList_append_own _ rfl _ _ 29 rfl w2.heap.size 3 i0 (.int .i64 0) 1 8 Tryz.underlying29 hi hz0 hz1 hz2 rfl (by decide) (.slice (some ⟨g, 0, none⟩) (i + j) cp) (i + j) (cellsN o) rfl (HOW.out.alloc _) ⟨_, 0, none⟩ 1 1 [.int .i64 (y : Int)] rfl rfl (cell_one_new _ _ _) (by simp [Value.oneCell']) (by unfold maxLen; omega) (by omega) (by simp; omega) ?_; intro v' w3 h1 h2 h3)
       | go_in)
      obtain ⟨g', cap', hv, ho, hb⟩ := app_int HOL.out HOW.out HBW.out h1 h2 h3
      have hlen : (o ++ [y]).length = i + j + 1 := by simp [HOL.out]
      rw [hlen] at hv ho
      clear h1 h2 h3
      go_roundw
      case rel => exact ⟨i, j + 1, g', cap', o ++ [y], by omega, by omega, by rw [hlen]; omega, by rw [show i + (j + 1) = i + j + 1 from by omega]; exact hv, by go_num, by go_num, by rw [show i + (j + 1) = i + j + 1 from by omega]; exact ho, HNX.out, hb⟩
      case measure => simp [intOf]; omega
  · have hjq : j = n - h := by omega
    have hjc : ¬ (j : Int) < ((n - h : Nat) : Int) := by omega
    have hje : ((j : Int) == ((n - h : Nat) : Int)) = true := by simp; omega
    by_cases hih2 : i < h
    · have hil : i < A.length := by rw [HLA.out]; exact hih2
      have hic : (i : Int) < (h : Int) := by omega
      have c0 : wr.cell? ⟨gA, i, none⟩ = some (.int .i64 (A[i] : Int)) := by
       have := (HRA.out.mono HBW.out).cell i hih2 hil
       simpa using this
      have hBn : B.drop j = [] := List.drop_of_length_le (by rw [HLB.out]; omega)
      have hnx := HNXT.out
      rw [hBn] at hnx
      have hnx2 : (o ++ [A[i]]) ++ (A.drop (i + 1)).merge (B.drop j) (leB keys dn) = F := by rw [hBn]; exact mg_a _ o A F i hil hnx
      have HNX := hide hnx2
      generalize hgx : A[i] = x at *
      clear hgx hnx hnx2 hBn HNXT hjq
      go_wp2_with (first
       | (at_builtin; refine wpList_append_own _ rfl _ _ 29 rfl w2.heap.size 3 i0 (.int .i64 0) 1 8 Tryz.underlying29 hi hz0 hz1 hz2 rfl (by decide) (.slice (some ⟨g, 0, none⟩) (i + j) cp) (i + j) (cellsN o) rfl (HOW.out.alloc _) ⟨_, 0, none⟩ 1 1 [.int .i64 (x : Int)] rfl rfl (cell_one_new _ _ _) (by simp [Value.oneCell']) (by unfold maxLen; omega) (by omega) (by simp; omega) ?_; intro v' w3 h1 h2 h3)
       | go_in)
      obtain ⟨g', cap', hv, ho, hb⟩ := app_int HOL.out HOW.out HBW.out h1 h2 h3
      have hlen : (o ++ [x]).length = i + j + 1 := by simp [HOL.out]
      rw [hlen] at hv ho
      clear h1 h2 h3
      go_roundw
      case rel => exact ⟨i + 1, j, g', cap', o ++ [x], by omega, by omega, by rw [hlen]; omega, by rw [show i + 1 + j = i + j + 1 from by omega]; exact hv, by go_num, by go_num, by rw [show i + 1 + j = i + j + 1 from by omega]; exact ho, HNX.out, hb⟩
      case measure => simp [intOf]; omega
    · have hic : ¬ (i : Int) < (h : Int) := by omega
      have hin : i + j = n := by omega
      have hfin : o = F := by
       have := HNXT.out
       rw [List.drop_of_length_le (l := A) (by rw [HLA.out]; omega), List.drop_of_length_le (l := B) (by rw [HLB.out]; omega)] at this
       simpa using this
      have hO := HOW.out
      rw [hin, hfin] at hO
      have HO := hide hO
      have HIN := hide hin
      clear hin hfin hO hjq
      go_wp2
      go_ret
      exact ⟨g, cp, by rw [HIN.out]; rfl, by rw [HF.out]; exact own_less HO.out HB2.out.size, HB2.out.trans (HBW.out.mono HB2.out.size)⟩

theorem merge_all : ∀ N, MergeSaid N
 | 0 => fun ps b off cap n ak nk ck keys dn w hl hN hc hcm hn hps hin hnk hrk hr => merge_short ps b off cap n ak nk ck keys dn w hl (by omega) hr
 | N + 1 => fun ps b off cap n ak nk ck keys dn w hl hN hc hcm hn hps hin hnk hrk hr => by
  by_cases h : n < 2
  · exact merge_short ps b off cap n ak nk ck keys dn w hl h hr
  · exact merge_long N (merge_all N) ps b off cap n ak nk ck keys dn w hl hN (by omega) hc hcm hn hps hin hnk hrk hr

theorem range_pw (n : Nat) : (List.range n).Pairwise (· < ·) := by rw [List.range_eq_range']; exact List.pairwise_lt_range'

set_option maxHeartbeats 400000 in
theorem specSortUp_any (ak : Option Addr) (n ck : Nat) (keys : List Int) (w : World) (hr : Rd w ak n keys) (hn : n ≤ 1048576) :
 Calls Tryz.prog 101 #[.slice ak n ck] w fun e w' => ∃ g c, e = .returned (.slice (some ⟨g, 0, none⟩) n c) ∧
  w'.ownsRow w.heap.size 3 1 (.slice (some ⟨g, 0, none⟩) n c) n (cellsN (sortP keys false (List.range n))) ∧ Below w.heap.size w w' := by
 have HR := hide hr
 clear hr
 go_enter Tryz.func101, Tryz.ntmps101
 go_wp2_with fail
 refine (l1Places_any n w hn).mono ?_
 rintro e w1 ⟨g, cap, rfl, ho, hb⟩
 have hcap := own_cap ho
 have HO := hide ho
 have HB := hide hb
 clear ho hb
 go_wp2_with fail
 refine (merge_all n (List.range n) g 0 cap n ak n ck keys false w1 List.length_range (Nat.le_refl _) hcap.1 hcap.2 hn (range_pw n) (fun p hp => List.mem_range.1 hp) hn (HR.out.mono HB.out) (Rd.of_cells HO.out)).mono ?_
 rintro e w2 ⟨g2, c2, rfl, ho2, hb2⟩
 go_wp2
 go_ret
 exact ⟨g2, c2, rfl, own_less ho2 HB.out.size, HB.out.trans (hb2.mono HB.out.size)⟩

end Go.Proofs.YtcblpoeeembniabGreatDoor
