/- slices.Sort at a row of at most twelve numbers that is owned: it stays owned; at a row of none. -/
import Derived.Test.YtcblpoeeembniabGreatDoorPkB
namespace Go.Proofs.YtcblpoeeembniabGreatDoor
open Go.RowKit
set_option linter.unusedVariables false

def OwnI (w : World) (B g n cap : Nat) (L : List Int) : Prop := w.ownsRow B 3 1 (.slice (some ⟨g, 0, none⟩) n cap) n (ci L)
theorem OwnI.len {w : World} {B g n cap : Nat} {L : List Int} (h : OwnI w B g n cap L) : L.length = n := by have := h.1; simpa [ci] using this
theorem OwnI.int {w : World} {B g n cap : Nat} {L : List Int} (h : OwnI w B g n cap L) (i : Nat) (hi : i < L.length) : w.cell? ⟨g, i, none⟩ = some (.int .i64 (L.getD i 0)) ∧ w.frozen? ⟨g, i, none⟩ = false :=
 ⟨(World.ownsRow.cellAt h i (by have := h.len; omega)).trans (ci_at L i hi), World.ownsRow.frozenAt h i⟩
theorem OwnI.puts {w : World} {B g n cap : Nat} {L : List Int} (h : OwnI w B g n cap L) (i : Nat) (hi : i < L.length) (v : Int) : OwnI (w.setCell ⟨g, i, none⟩ (.int .i64 v)) B g n cap (L.set i v) := by
 have := (World.ownsRow.stored h i (.int .i64 v)).1
 rw [ci_set] at this
 exact this
theorem OwnI.drewn {w : World} {B g n cap : Nat} {L : List Int} (h : OwnI w B g n cap L) (m : Nat) : OwnI (w.drewN m) B g n cap L := h
set_option maxHeartbeats 3200000 in
theorem insO_any (B g n cap : Nat) (L : List Int) (w : World) (hl : L.length = n) (hn1 : 1 ≤ n) (hn : n ≤ 1048576) (hB : OwnI w B g n cap L) :
 Calls Tryz.prog 142 #[.slice (some ⟨g, 0, none⟩) n cap, .int .i64 0, .int .i64 (n : Int)] w fun e w' =>
  e = .returned (.tuple #[]) ∧ ∃ M, M.Perm L ∧ upI M ∧ OwnI w' B g n cap M ∧ w.grownBy w' (some g) := by
 go_enter Tryz.func142, Tryz.ntmps142
 go_wp2
 go_loopw [6] (fun i wr => ∃ (t : Nat) (T : List Int), 1 ≤ t ∧ t ≤ n ∧ i = .int .i64 (t : Int) ∧ T.Perm (L.take t) ∧ upI T ∧ OwnI wr B g n cap (T ++ L.drop t) ∧ w.grownBy wr (some g)) (fun i _ => ((n : Int) - intOf i).toNat)
 case atStart => exact ⟨1, L.take 1, Nat.le_refl _, hn1, by go_num, List.Perm.refl _, by unfold upI; cases L <;> simp, by rw [List.take_append_drop]; exact hB, World.grownBy.refl _ _⟩
 case round =>
  obtain ⟨t, T, ht1, ht2, rfl, hperm, hsort, how, hgb⟩ := hrel
  by_cases hlt : t < n
  · have hTl : T.length = t := by rw [hperm.length_eq, List.length_take]; omega
    have hx : L.drop t = L[t] :: L.drop (t + 1) := List.drop_eq_getElem_cons (by omega)
    have hpt : (T ++ [L[t]]).Perm (L.take (t + 1)) := by
     rw [List.take_succ_eq_append_getElem (by omega)]; exact hperm.append_right _
    have hrl : (L.drop (t + 1)).length = n - (t + 1) := by simp [hl]
    rw [hx] at how
    clear hx
    generalize hxx : L[t] = x at *
    generalize hrest : L.drop (t + 1) = rest at *
    have HR : Hid (L.drop (t + 1) = rest) := hrest
    clear hxx hrest
    have hHT := hide hTl
    have hRL := hide hrl
    clear hTl hrl
    go_wp2
    obtain ⟨wo, rfl⟩ : ∃ wo : World, wo = wr := ⟨_, rfl⟩
    go_loopw [7] (fun j wi => ∃ (S R : List Int) (k : Nat), S ++ R = T ∧ k = S.length ∧ j = .int .i64 (k : Int) ∧ (∀ r ∈ R, x < r) ∧ OwnI wi B g n cap (S ++ x :: (R ++ rest)) ∧ w.grownBy wi (some g)) (fun j _ => (intOf j).toNat)
    case atStart => exact ⟨T, [], t, List.append_nil _, by rw [hHT.out], by go_num, fun r hr => by simp at hr, how, hgb⟩
    case round =>
     clear how hgb
     obtain ⟨S, R, k, hSR, hks, rfl, hRx, how, hgb⟩ := hrel
     have hSRl : S.length + R.length = t := by have := congrArg List.length hSR; rw [List.length_append, hHT.out] at this; exact this
     have hl2 : (S ++ x :: (R ++ rest)).length = n := by
      have := hRL.out
      simp only [List.length_append, List.length_cons]; omega
     rcases nil_or_lastI S with rfl | ⟨S', y, rfl⟩
     · have hk0 : k = 0 := by simpa using hks
       subst hk0
       have hT0 : R = T := by simpa using hSR
       subst hT0
       have hfin := upI_ins (S := []) (by simpa using hsort) hRx (Or.inl rfl)
       have HFIN := hide hfin
       have HOW := hide how
       have HGB := hide hgb
       have HPT : Hid ((x :: R).Perm (L.take (t + 1))) := (List.perm_append_comm (l₁ := [x]) (l₂ := R)).trans hpt
       clear hfin how hgb hSR hks hRx hsort hSRl hl2 hpt hperm
       go_wp2
       go_quiet (fail)
       go_wp2
       go_roundw
       case rel => exact ⟨t + 1, x :: R, by omega, by omega, by go_num, HPT.out, HFIN.out, by rw [HR.out]; simpa using HOW.out.drewn _, gbi_drew HGB.out _⟩
       case measure => simp [intOf]; omega
     · obtain ⟨i, hi⟩ : ∃ i, i = S'.length := ⟨_, rfl⟩
       have hki : k = i + 1 := by simp at hks; omega
       subst hki
       have hin2 : i + 1 < n := by rw [← hl2]; simp; omega
       have e1 : (S' ++ [y] ++ x :: (R ++ rest)).getD (i + 1) 0 = x := by rw [hi]; exact midI_x _ _ _ _
       have e0 : (S' ++ [y] ++ x :: (R ++ rest)).getD i 0 = y := by rw [hi]; exact midI_y _ _ _ _
       have b1 := how.int (i + 1) (by rw [hl2]; exact hin2)
       have b0 := how.int i (by rw [hl2]; omega)
       rw [e1] at b1
       rw [e0] at b0
       obtain ⟨c1, f1⟩ := b1
       obtain ⟨c0, f0⟩ := b0
       have hd : decide ((0 : Int) < (i : Int) + 1) = true := by rw [decide_eq_true_eq]; omega
       have hsub : (i : Int) + 1 - 1 = (i : Int) := by omega
       have HI := hide hi
       clear hi hks e1 e0
       by_cases hxy : x < y
       · have hxd : decide (x < y) = true := by simpa using hxy
         have HST : Hid (∀ m, OwnI (((wr.drewN m).setCell ⟨g, i + 1, none⟩ (.int .i64 y)).setCell ⟨g, i, none⟩ (.int .i64 x)) B g n cap (S' ++ x :: (y :: R ++ rest))) := by
          intro m
          have hst := ((how.drewn m).puts (i + 1) (by rw [hl2]; exact hin2) y).puts i (by rw [List.length_set, hl2]; omega) x
          rw [swapI S' y x (R ++ rest) i HI.out] at hst
          exact hst
         have HGB : Hid (∀ m, w.grownBy (((wr.drewN m).setCell ⟨g, i + 1, none⟩ (.int .i64 y)).setCell ⟨g, i, none⟩ (.int .i64 x)) (some g)) := fun m => gb_set (gb_set (gbi_drew hgb m) (i + 1) _) i _
         have HRX : Hid (∀ r ∈ y :: R, x < r) := by
          intro r hr
          rcases List.mem_cons.1 hr with rfl | hr
          · exact hxy
          · exact hRx r hr
         have HSR : Hid (S' ++ (y :: R) = T) := by rw [Hid, ← hSR]; simp
         have HTT := hide (And.intro hsort (And.intro hperm hpt))
         clear how hgb hRx hSR hxy hsort hperm hpt hSRl hl2
         go_wp2
         go_quiet ((go_at_call 148; exact Calls.quiet_of_same (lessInt_any _ _ _)))
         go_wp2
         go_region
         go_wp2
         go_roundw
         case rel => exact ⟨S', y :: R, i, HSR.out, HI.out, by go_num, HRX.out, HST.out _, HGB.out _⟩
         case measure => simp [intOf]
       · have hxd : decide (x < y) = false := by simpa using hxy
         have hfin := upI_ins (S := S' ++ [y]) (by rw [hSR]; exact hsort) hRx (Or.inr ⟨S', y, rfl, by omega⟩)
         have HFIN := hide hfin
         have hpp : ((S' ++ [y]) ++ x :: R).Perm (L.take (t + 1)) := by
          refine List.Perm.trans ?_ hpt
          rw [← hSR]
          refine (List.perm_middle).trans ?_
          exact (List.perm_append_comm (l₁ := [x]))
         have HPP := hide hpp
         have HOW := hide how
         have HGB := hide hgb
         clear hfin how hgb hRx hSR hxy hsort hperm hpt hpp hSRl hl2
         go_wp2
         go_quiet ((go_at_call 148; exact Calls.quiet_of_same (lessInt_any _ _ _)))
         go_wp2
         go_roundw
         case rel => exact ⟨t + 1, (S' ++ [y]) ++ x :: R, by omega, by omega, by go_num, HPP.out, HFIN.out, by rw [HR.out]; simpa using HOW.out.drewn _, gbi_drew HGB.out _⟩
         case measure => simp [intOf]; omega
  · have htm : t = n := by omega
    subst htm
    rw [List.take_of_length_le (by omega)] at hperm
    rw [List.drop_of_length_le (by omega), List.append_nil] at how
    go_wp2
    first | go_end0 | refine bodyPost_ret (results_none rfl _ _ _) rfl ?_
    exact ⟨rfl, T, hperm, hsort, how, hgb⟩
set_option maxHeartbeats 1600000 in
theorem pdqO_any (B g n cap : Nat) (lim : Int) (L : List Int) (w : World) (hl : L.length = n) (hn1 : 1 ≤ n) (hn : n ≤ 12) (hB : OwnI w B g n cap L) :
 Calls Tryz.prog 136 #[.slice (some ⟨g, 0, none⟩) n cap, .int .i64 0, .int .i64 (n : Int), .int .i64 lim] w fun e w' =>
  e = .returned (.tuple #[]) ∧ ∃ M, M.Perm L ∧ upI M ∧ OwnI w' B g n cap M ∧ w.grownBy w' (some g) := by
 have h0 : (n : Int) ≤ 12 := by omega
 have HB := hide hB
 clear hB
 go_enter Tryz.func136, Tryz.ntmps136
 go_wp2
 refine wp_loop_rounds 1 ?_
 rw [rounds_succ]
 go_wp2_with fail
 refine (insO_any B g n cap L _ hl hn1 (by omega) HB.out).mono ?_
 rintro e w1 ⟨rfl, M, h1, h2, h3, h4⟩
 go_wp2
 first | go_end0 | refine bodyPost_ret (results_none rfl _ _ _) rfl ?_
 exact ⟨rfl, M, h1, h2, h3, h4⟩
set_option maxHeartbeats 1600000 in
theorem sortO_any (B g n cap : Nat) (L : List Int) (w : World) (hl : L.length = n) (hn1 : 1 ≤ n) (hn : n ≤ 12) (hB : OwnI w B g n cap L) :
 Calls Tryz.prog 122 #[.slice (some ⟨g, 0, none⟩) n cap] w fun e w' =>
  e = .returned (.tuple #[]) ∧ ∃ M, M.Perm L ∧ upI M ∧ OwnI w' B g n cap M ∧ w.grownBy w' (some g) := by
 have HB := hide hB
 clear hB
 go_enter Tryz.func122, Tryz.ntmps122
 go_wp2_with (first
  | (go_at_call 137; refine (len_any n hn _).mono ?_; rintro e w' ⟨⟨k, rfl⟩, rfl⟩)
  | (go_at_call 136; refine (pdqO_any B g n cap _ L _ hl hn1 hn HB.out).mono ?_; rintro e w1 ⟨rfl, M, h1, h2, h3, h4⟩))
 first | go_end0 | refine bodyPost_ret (results_none rfl _ _ _) rfl ?_
 exact ⟨rfl, M, h1, h2, h3, h4⟩
theorem insO_nil (a : Option Addr) (cap : Nat) (w : World) :
 Calls Tryz.prog 142 #[.slice a 0 cap, .int .i64 0, .int .i64 0] w fun e w' => e = .returned (.tuple #[]) ∧ w' = w := by
 go_enter Tryz.func142, Tryz.ntmps142
 go_wp2
 refine wp_loop_rounds 1 ?_
 rw [rounds_succ]
 go_wp2
 first | go_end0 | refine bodyPost_ret (results_none rfl _ _ _) rfl ?_
 exact ⟨rfl, rfl⟩
theorem pdqO_nil (a : Option Addr) (cap : Nat) (lim : Int) (w : World) :
 Calls Tryz.prog 136 #[.slice a 0 cap, .int .i64 0, .int .i64 0, .int .i64 lim] w fun e w' => e = .returned (.tuple #[]) ∧ w' = w := by
 go_enter Tryz.func136, Tryz.ntmps136
 go_wp2
 refine wp_loop_rounds 1 ?_
 rw [rounds_succ]
 go_wp2_with fail
 refine (insO_nil a cap _).mono ?_
 rintro e w1 ⟨rfl, rfl⟩
 go_wp2
 first | go_end0 | refine bodyPost_ret (results_none rfl _ _ _) rfl ?_
 exact ⟨rfl, rfl⟩
theorem sortO_nil (a : Option Addr) (cap : Nat) (w : World) :
 Calls Tryz.prog 122 #[.slice a 0 cap] w fun e w' => e = .returned (.tuple #[]) ∧ w' = w := by
 have hl := len_any 0 (by omega)
 go_enter Tryz.func122, Tryz.ntmps122
 go_wp2_with (first
  | (go_at_call 137; refine (hl _).mono ?_; rintro e w' ⟨⟨k, rfl⟩, rfl⟩)
  | (go_at_call 136; refine (pdqO_nil a cap _ _).mono ?_; rintro e w1 ⟨rfl, rfl⟩))
 first | go_end0 | refine bodyPost_ret (results_none rfl _ _ _) rfl ?_
 exact ⟨rfl, rfl⟩
end Go.Proofs.YtcblpoeeembniabGreatDoor
