/- slices.Sort at a row of at most twelve numbers that lies in a block of its own: the library's insertion sort, walked. -/
import Derived.Test.YtlakbnpinennnaaGreatDoorStructs
namespace Go.Proofs.YtlakbnpinennnaaGreatDoor
open Go.RowKit
set_option linter.unusedVariables false

def ci (L : List Int) : List Value := L.map (Value.int .i64)
theorem ci_len (L : List Int) : (ci L).length = L.length := by simp [ci]
theorem ci_at (L : List Int) (i : Nat) (h : i < L.length) : (ci L)[i]? = some (.int .i64 (L.getD i 0)) := by simp [ci, h]
theorem ci_set (L : List Int) (i : Nat) (v : Int) : (ci L).set i (.int .i64 v) = ci (L.set i v) := by simp [ci, List.map_set]
theorem Blk.int {w : World} {g : Nat} {L : List Int} (h : Blk w g (ci L)) (i : Nat) (hi : i < L.length) : w.cell? ⟨g, i, none⟩ = some (.int .i64 (L.getD i 0)) ∧ w.frozen? ⟨g, i, none⟩ = false := by
  have := h i (by rw [ci_len]; exact hi)
  rw [ci_at L i hi] at this
  exact this
theorem Blk.puts {w : World} {g : Nat} {L : List Int} (h : Blk w g (ci L)) (i : Nat) (hi : i < L.length) (v : Int) : Blk (w.setCell ⟨g, i, none⟩ (.int .i64 v)) g (ci (L.set i v)) := by
  have := h.set (j := i) (v := .int .i64 v) (by rw [ci_len]; exact hi)
  rw [ci_set] at this
  exact this
theorem Blk.drewn {w : World} {g : Nat} {cs : List Value} (h : Blk w g cs) (m : Nat) : Blk (w.drewN m) g cs := h
theorem gbi_drew {w w' : World} {row : Option Nat} (h : w.grownBy w' row) (m : Nat) : w.grownBy (w'.drewN m) row := ⟨h.os, h.tape, h.output, h.size, h.block⟩
def upI (L : List Int) : Prop := L.Pairwise (· ≤ ·)
theorem upI_ins {S R : List Int} {x : Int} (hT : upI (S ++ R)) (hR : ∀ r ∈ R, x < r) (hS : S = [] ∨ ∃ S' y, S = S' ++ [y] ∧ y ≤ x) : upI (S ++ x :: R) := by
  unfold upI at *
  rw [List.pairwise_append] at hT ⊢
  obtain ⟨h1, h2, h3⟩ := hT
  have hSx : ∀ s ∈ S, s ≤ x := by
    intro s hs
    rcases hS with rfl | ⟨S', y, rfl, hy⟩
    · simp at hs
    · rw [List.pairwise_append] at h1
      rcases List.mem_append.1 hs with h | h
      · exact Int.le_trans (h1.2.2 s h y (by simp)) hy
      · simp at h; subst h; exact hy
  refine ⟨h1, List.pairwise_cons.2 ⟨fun r hr => Int.le_of_lt (hR r hr), h2⟩, fun s hs b hb => ?_⟩
  rcases List.mem_cons.1 hb with rfl | hb
  · exact hSx s hs
  · exact Int.le_trans (hSx s hs) (Int.le_of_lt (hR b hb))
theorem nil_or_lastI (S : List Int) : S = [] ∨ ∃ S' y, S = S' ++ [y] := by
  rcases List.eq_nil_or_concat S with h | ⟨S', y, h⟩
  · exact Or.inl h
  · exact Or.inr ⟨S', y, by simpa using h⟩
theorem swapI (S : List Int) (y x : Int) (R : List Int) (i : Nat) (hi : i = S.length) : ((S ++ [y] ++ x :: R).set (i + 1) y).set i x = S ++ x :: y :: R := by
  subst hi
  simp
theorem midI_x (S : List Int) (y x : Int) (R : List Int) : (S ++ [y] ++ x :: R).getD (S.length + 1) 0 = x := by simp
theorem midI_y (S : List Int) (y x : Int) (R : List Int) : (S ++ [y] ++ x :: R).getD S.length 0 = y := by simp

set_option maxHeartbeats 400000 in
theorem isNaNInt_any (x : Int) (w : World) : Calls Tryz.prog 126 #[.int .i64 x] w fun e w' => e = .returned (.bool false) ∧ w' = w := by
  go_enter Tryz.func126, Tryz.ntmps126
  go_wp2
  go_ret
  exact ⟨by simp, rfl⟩
set_option maxHeartbeats 400000 in
theorem lessInt_any (x y : Int) (w : World) : Calls Tryz.prog 106 #[.int .i64 x, .int .i64 y] w fun e w' => e = .returned (.bool (decide (x < y))) ∧ w' = w := by
  go_enter Tryz.func106, Tryz.ntmps106
  go_wp2_with (go_at_call 126; refine (isNaNInt_any _ _).mono ?_; rintro e w' ⟨rfl, rfl⟩)
  go_ret
  exact ⟨rfl, rfl⟩
set_option maxHeartbeats 3200000 in
theorem insI_any (g n cap : Nat) (L : List Int) (w : World) (hl : L.length = n) (hn1 : 1 ≤ n) (hn : n ≤ 1048576) (hB : Blk w g (ci L)) :
    Calls Tryz.prog 100 #[.slice (some ⟨g, 0, none⟩) n cap, .int .i64 0, .int .i64 (n : Int)] w fun e w' =>
      e = .returned (.tuple #[]) ∧ ∃ M, M.Perm L ∧ upI M ∧ Blk w' g (ci M) ∧ w.grownBy w' (some g) := by
  go_enter Tryz.func100, Tryz.ntmps100
  go_wp2
  go_loopw [6] (fun i wr => ∃ (t : Nat) (T : List Int), 1 ≤ t ∧ t ≤ n ∧ i = .int .i64 (t : Int) ∧ T.Perm (L.take t) ∧ upI T ∧ Blk wr g (ci (T ++ L.drop t)) ∧ w.grownBy wr (some g)) (fun i _ => ((n : Int) - intOf i).toNat)
  case atStart => exact ⟨1, L.take 1, Nat.le_refl _, hn1, by go_num, List.Perm.refl _, by unfold upI; cases L <;> simp, by rw [List.take_append_drop]; exact hB, World.grownBy.refl _ _⟩
  case round =>
    obtain ⟨t, T, ht1, ht2, rfl, hperm, hsort, how, hgb⟩ := hrel
    by_cases hlt : t < n
    · have hTl : T.length = t := by rw [hperm.length_eq, List.length_take]; omega
      have hx : L.drop t = L[t] :: L.drop (t + 1) := List.drop_eq_getElem_cons (by omega)
      have hpt : (T ++ [L[t]]).Perm (L.take (t + 1)) := by
        rw [List.take_succ_eq_append_getElem (by omega)]; exact hperm.append_right _
      have hrl : (L.drop (t + 1)).length = n - (t + 1) := by simp [hl]
      rw [hx] at how
      clear hx
      generalize hxx : L[t] = x at *
      generalize hrest : L.drop (t + 1) = rest at *
      have HR : Hid (L.drop (t + 1) = rest) := hrest
      clear hxx hrest
      have hHT := hide hTl
      have hRL := hide hrl
      clear hTl hrl
      go_wp2
      obtain ⟨wo, rfl⟩ : ∃ wo : World, wo = wr := ⟨_, rfl⟩
      go_loopw [7] (fun j wi => ∃ (S R : List Int) (k : Nat), S ++ R = T ∧ k = S.length ∧ j = .int .i64 (k : Int) ∧ (∀ r ∈ R, x < r) ∧ Blk wi g (ci (S ++ x :: (R ++ rest))) ∧ w.grownBy wi (some g)) (fun j _ => (intOf j).toNat)
      case atStart => exact ⟨T, [], t, List.append_nil _, by rw [hHT.out], by go_num, fun r hr => by simp at hr, how, hgb⟩
      case round =>
        clear how hgb
        obtain ⟨S, R, k, hSR, hks, rfl, hRx, how, hgb⟩ := hrel
        have hSRl : S.length + R.length = t := by have := congrArg List.length hSR; rw [List.length_append, hHT.out] at this; exact this
        have hl2 : (S ++ x :: (R ++ rest)).length = n := by
          have := hRL.out
          simp only [List.length_append, List.length_cons]; omega
        rcases nil_or_lastI S with rfl | ⟨S', y, rfl⟩
        · have hk0 : k = 0 := by simpa using hks
          subst hk0
          have hT0 : R = T := by simpa using hSR
          subst hT0
          have hfin := upI_ins (S := []) (by simpa using hsort) hRx (Or.inl rfl)
          have HFIN := hide hfin
          have HOW := hide how
          have HGB := hide hgb
          have HPT : Hid ((x :: R).Perm (L.take (t + 1))) := (List.perm_append_comm (l₁ := [x]) (l₂ := R)).trans hpt
          clear hfin how hgb hSR hks hRx hsort hSRl hl2 hpt hperm
          go_wp2
          go_quiet (fail)
          go_wp2
          go_roundw
          case rel => exact ⟨t + 1, x :: R, by omega, by omega, by go_num, HPT.out, HFIN.out, by rw [HR.out]; simpa using HOW.out.drewn _, gbi_drew HGB.out _⟩
          case measure => simp [intOf]; omega
        · obtain ⟨i, hi⟩ : ∃ i, i = S'.length := ⟨_, rfl⟩
          have hki : k = i + 1 := by simp at hks; omega
          subst hki
          have hin2 : i + 1 < n := by rw [← hl2]; simp; omega
          have e1 : (S' ++ [y] ++ x :: (R ++ rest)).getD (i + 1) 0 = x := by rw [hi]; exact midI_x _ _ _ _
          have e0 : (S' ++ [y] ++ x :: (R ++ rest)).getD i 0 = y := by rw [hi]; exact midI_y _ _ _ _
          have b1 := how.int (i + 1) (by rw [hl2]; exact hin2)
          have b0 := how.int i (by rw [hl2]; omega)
          rw [e1] at b1
          rw [e0] at b0
          obtain ⟨c1, f1⟩ := b1
          obtain ⟨c0, f0⟩ := b0
          have hd : decide ((0 : Int) < (i : Int) + 1) = true := by rw [decide_eq_true_eq]; omega
          have hsub : (i : Int) + 1 - 1 = (i : Int) := by omega
          have HI := hide hi
          clear hi hks e1 e0
          by_cases hxy : x < y
          · have hxd : decide (x < y) = true := by simpa using hxy
            have HST : Hid (∀ m, Blk (((wr.drewN m).setCell ⟨g, i + 1, none⟩ (.int .i64 y)).setCell ⟨g, i, none⟩ (.int .i64 x)) g (ci (S' ++ x :: (y :: R ++ rest)))) := by
              intro m
              have hst := ((how.drewn m).puts (i + 1) (by rw [hl2]; exact hin2) y).puts i (by rw [List.length_set, hl2]; omega) x
              rw [swapI S' y x (R ++ rest) i HI.out] at hst
              exact hst
            have HGB : Hid (∀ m, w.grownBy (((wr.drewN m).setCell ⟨g, i + 1, none⟩ (.int .i64 y)).setCell ⟨g, i, none⟩ (.int .i64 x)) (some g)) := fun m => gb_set (gb_set (gbi_drew hgb m) (i + 1) _) i _
            have HRX : Hid (∀ r ∈ y :: R, x < r) := by
              intro r hr
              rcases List.mem_cons.1 hr with rfl | hr
              · exact hxy
              · exact hRx r hr
            have HSR : Hid (S' ++ (y :: R) = T) := by rw [Hid, ← hSR]; simp
            have HTT := hide (And.intro hsort (And.intro hperm hpt))
            clear how hgb hRx hSR hxy hsort hperm hpt hSRl hl2
            go_wp2
            go_quiet ((go_at_call 106; exact Calls.quiet_of_same (lessInt_any _ _ _)))
            go_wp2
            go_region
            go_wp2
            go_roundw
            case rel => exact ⟨S', y :: R, i, HSR.out, HI.out, by go_num, HRX.out, HST.out _, HGB.out _⟩
            case measure => simp [intOf]
          · have hxd : decide (x < y) = false := by simpa using hxy
            have hfin := upI_ins (S := S' ++ [y]) (by rw [hSR]; exact hsort) hRx (Or.inr ⟨S', y, rfl, by omega⟩)
            have HFIN := hide hfin
            have hpp : ((S' ++ [y]) ++ x :: R).Perm (L.take (t + 1)) := by
              refine List.Perm.trans ?_ hpt
              rw [← hSR]
              refine (List.perm_middle).trans ?_
              exact (List.perm_append_comm (l₁ := [x]))
            have HPP := hide hpp
            have HOW := hide how
            have HGB := hide hgb
            clear hfin how hgb hRx hSR hxy hsort hperm hpt hpp hSRl hl2
            go_wp2
            go_quiet ((go_at_call 106; exact Calls.quiet_of_same (lessInt_any _ _ _)))
            go_wp2
            go_roundw
            case rel => exact ⟨t + 1, (S' ++ [y]) ++ x :: R, by omega, by omega, by go_num, HPP.out, HFIN.out, by rw [HR.out]; simpa using HOW.out.drewn _, gbi_drew HGB.out _⟩
            case measure => simp [intOf]; omega
    · have htm : t = n := by omega
      subst htm
      rw [List.take_of_length_le (by omega)] at hperm
      rw [List.drop_of_length_le (by omega), List.append_nil] at how
      go_wp2
      first | go_end0 | refine bodyPost_ret (results_none rfl _ _ _) rfl ?_
      exact ⟨rfl, T, hperm, hsort, how, hgb⟩
set_option maxHeartbeats 1600000 in
theorem pdqI_any (g n cap : Nat) (lim : Int) (L : List Int) (w : World) (hl : L.length = n) (hn1 : 1 ≤ n) (hn : n ≤ 12) (hB : Blk w g (ci L)) :
    Calls Tryz.prog 83 #[.slice (some ⟨g, 0, none⟩) n cap, .int .i64 0, .int .i64 (n : Int), .int .i64 lim] w fun e w' =>
      e = .returned (.tuple #[]) ∧ ∃ M, M.Perm L ∧ upI M ∧ Blk w' g (ci M) ∧ w.grownBy w' (some g) := by
  have h0 : (n : Int) ≤ 12 := by omega
  have HB := hide hB
  clear hB
  go_enter Tryz.func83, Tryz.ntmps83
  go_wp2
  refine wp_loop_rounds 1 ?_
  rw [rounds_succ]
  go_wp2_with fail
  refine (insI_any g n cap L _ hl hn1 (by omega) HB.out).mono ?_
  rintro e w1 ⟨rfl, M, h1, h2, h3, h4⟩
  go_wp2
  first | go_end0 | refine bodyPost_ret (results_none rfl _ _ _) rfl ?_
  exact ⟨rfl, M, h1, h2, h3, h4⟩
set_option maxRecDepth 100000 in
set_option maxHeartbeats 1600000 in
theorem len64_any (n : Nat) (hn : n ≤ 12) (w : World) : Calls Tryz.prog 110 #[.int .u64 (n : Int)] w fun e w' => (∃ k, e = .returned (.int .i64 k)) ∧ w' = w := by
  obtain rfl | rfl | rfl | rfl | rfl | rfl | rfl | rfl | rfl | rfl | rfl | rfl | rfl : n = 0 ∨ n = 1 ∨ n = 2 ∨ n = 3 ∨ n = 4 ∨ n = 5 ∨ n = 6 ∨ n = 7 ∨ n = 8 ∨ n = 9 ∨ n = 10 ∨ n = 11 ∨ n = 12 := by omega
  all_goals
    go_enter Tryz.func110, Tryz.ntmps110
    go_wp2
    go_ret
    exact ⟨⟨_, rfl⟩, rfl⟩
set_option maxHeartbeats 1600000 in
theorem len_any (n : Nat) (hn : n ≤ 12) (w : World) : Calls Tryz.prog 84 #[.int .u64 (n : Int)] w fun e w' => (∃ k, e = .returned (.int .i64 k)) ∧ w' = w := by
  go_enter Tryz.func84, Tryz.ntmps84
  go_wp2_with (go_at_call 110; refine (len64_any n hn _).mono ?_; rintro e w' ⟨⟨k, rfl⟩, rfl⟩)
  go_ret
  exact ⟨⟨_, rfl⟩, rfl⟩
set_option maxHeartbeats 1600000 in
theorem sortI_any (g n cap : Nat) (L : List Int) (w : World) (hl : L.length = n) (hn1 : 1 ≤ n) (hn : n ≤ 12) (hB : Blk w g (ci L)) :
    Calls Tryz.prog 50 #[.slice (some ⟨g, 0, none⟩) n cap] w fun e w' =>
      e = .returned (.tuple #[]) ∧ ∃ M, M.Perm L ∧ upI M ∧ Blk w' g (ci M) ∧ w.grownBy w' (some g) := by
  have HB := hide hB
  clear hB
  go_enter Tryz.func50, Tryz.ntmps50
  go_wp2_with (first
    | (go_at_call 84; refine (len_any n hn _).mono ?_; rintro e w' ⟨⟨k, rfl⟩, rfl⟩)
    | (go_at_call 83; refine (pdqI_any g n cap _ L _ hl hn1 hn HB.out).mono ?_; rintro e w1 ⟨rfl, M, h1, h2, h3, h4⟩))
  first | go_end0 | refine bodyPost_ret (results_none rfl _ _ _) rfl ?_
  exact ⟨rfl, M, h1, h2, h3, h4⟩
end Go.Proofs.YtlakbnpinennnaaGreatDoor
