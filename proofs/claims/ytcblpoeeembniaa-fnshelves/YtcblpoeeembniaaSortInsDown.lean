/- The library's insertion sort over a piece of a row of places, with the program's function literal that compares by keys (Down). -/
import Derived.Test.YtcblpoeeembniaaSortCmp
import Derived.Test.YtcblpoeeembniaaSortRow
namespace Go.Proofs.Ytcblpoeeembniaa
open Go.RowKit

set_option maxHeartbeats 3200000 in
theorem insDown_any (base g n cap bx : Nat) (ak : Option Addr) (nk ck : Nat) (keys : List Int) (P M Q : List Nat) (A B : Int) (w : World)
 (hA : A = P.length) (hB : B = P.length + M.length) (hM0 : 1 ≤ M.length)
 (hown : w.ownsRow base 3 1 (.slice (some ⟨g, 0, none⟩) n cap) n (cellsN (P ++ M ++ Q))) (hk : Keys w bx ak nk ck keys) (hbx : bx ≠ g) (hak : ∀ x, ak = some x → x.block ≠ g)
 (hM : M.Pairwise (· < ·)) (hin : ∀ p ∈ M, p < nk) (hn : n ≤ 1048576) :
 Calls Try.prog 71 #[.slice (some ⟨g, 0, none⟩) n cap, .int .i64 A, .int .i64 B, .func (Fn.func 66) #[] #[.pointer (some ⟨bx, 0, none⟩)]] w fun e w' =>
  e = .returned (.tuple #[]) ∧ ∃ M', M'.Perm M ∧ M'.Pairwise (bef keys true) ∧ w'.ownsRow base 3 1 (.slice (some ⟨g, 0, none⟩) n cap) n (cellsN (P ++ M' ++ Q)) ∧ w.grownBy w' (some g) := by
 subst hA hB
 have hlen : P.length + M.length + Q.length = n := by have := hown.1; simp [cellsN] at this; omega
 go_enter Try.func71, Try.ntmps71
 go_wp2
 go_loopw [8] (fun i wr => ∃ (t : Nat) (T : List Nat), 1 ≤ t ∧ t ≤ M.length ∧ i = .int .i64 ((P.length : Int) + t) ∧ T.Perm (M.take t) ∧ T.Pairwise (bef keys true) ∧ wr.ownsRow base 3 1 (.slice (some ⟨g, 0, none⟩) n cap) n (cellsN (P ++ T ++ (M.drop t ++ Q))) ∧ w.grownBy wr (some g)) (fun i _ => ((P.length : Int) + M.length - intOf i).toNat)
 case atStart => exact ⟨1, M.take 1, Nat.le_refl _, hM0, by go_num, List.Perm.refl _, take1_sorted _ _ _, by rw [cut_one]; exact hown, World.grownBy.refl _ _⟩
 case round =>
  obtain ⟨t, T, ht1, ht2, rfl, hperm, hsort, how, hgb⟩ := hrel
  by_cases hlt : t < M.length
  · have hTl : T.length = t := by rw [hperm.length_eq, List.length_take]; omega
    have hx : M.drop t = M[t] :: M.drop (t + 1) := List.drop_eq_getElem_cons hlt
    have hltx : ∀ y ∈ T, y < M[t] := fun y hy => take_lt hM t hlt y (hperm.mem_iff.1 hy)
    have hinT : ∀ y ∈ T, y < nk := fun y hy => hin y (List.mem_of_mem_take (hperm.mem_iff.1 hy))
    have hinx : M[t] < nk := hin _ (List.getElem_mem hlt)
    have hpt : (T ++ [M[t]]).Perm (M.take (t + 1)) := by
     rw [List.take_succ_eq_append_getElem hlt]; exact hperm.append_right _
    rw [hx] at how
    clear hx
    generalize hxx : M[t] = x at *
    generalize hrest : M.drop (t + 1) = rest at *
    have HR : Hid (M.drop (t + 1) = rest) := hrest
    clear hxx hrest
    have hHT := hide hTl
    clear hTl
    go_wp2
    obtain ⟨wo, rfl⟩ : ∃ wo : World, wo = wr := ⟨_, rfl⟩
    go_loopw [9] (fun j wi => ∃ (S R : List Nat) (k : Nat), S ++ R = T ∧ k = P.length + S.length ∧ j = .int .i64 (k : Int) ∧ (∀ r ∈ R, lts keys true x r = true) ∧ wi.ownsRow base 3 1 (.slice (some ⟨g, 0, none⟩) n cap) n (cellsN (P ++ S ++ x :: (R ++ (rest ++ Q)))) ∧ w.grownBy wi (some g)) (fun j _ => (intOf j).toNat)
    case atStart => exact ⟨T, [], P.length + t, List.append_nil _, by rw [hHT.out], by go_num, fun r hr => by simp at hr, how, hgb⟩
    case round =>
     clear how hgb
     obtain ⟨S, R, k, hSR, hks, rfl, hRx, how, hgb⟩ := hrel
     have hkeys := hk.grown hgb hbx hak
     have hl2 : (P ++ S ++ x :: (R ++ (rest ++ Q))).length = n := by have := how.1; simpa [cellsN] using this
     rcases nil_or_last S with rfl | ⟨S', y, rfl⟩
     · have hk0 : k = P.length := by simpa using hks
       subst hk0
       have hT0 : R = T := by simpa using hSR
       subst hT0
       have hfin := ins_done (S := []) (by simpa using hsort) (by simpa using hltx) hRx (Or.inl rfl)
       have HFIN := hide hfin
       have HOW := hide how
       have HGB := hide hgb
       have hd : decide ((P.length : Int) < (P.length : Int)) = false := by simp
       clear hfin how hgb hSR hks hRx hsort hltx
       go_wp2
       go_quiet (fail)
       go_wp2
       go_roundw
       case rel => exact ⟨t + 1, x :: R, by omega, by omega, by go_num, (ins_perm [] R x).trans hpt, HFIN.out, by rw [HR.out]; simpa using own_drew HOW.out _, gb_drew HGB.out _⟩
       case measure => simp [intOf]; omega
     · have hi0 : k = P.length + S'.length + 1 := by simp at hks; omega
       have hyT : y ∈ T := by rw [← hSR]; simp
       have hyk := hinT y hyT
       obtain ⟨i, hi⟩ : ∃ i, i = P.length + S'.length := ⟨_, rfl⟩
       have hki : k = i + 1 := by omega
       subst hki
       have hin2 : i + 1 < n := by rw [← hl2]; simp; omega
       have hPi : P.length ≤ i := by omega
       have c1 : wr.cell? ⟨g, i + 1, none⟩ = some (.int .i64 (x : Int)) := own_get how (i + 1) x (by rw [hi]; exact mid_x P S' _ x y)
       have c0 : wr.cell? ⟨g, i, none⟩ = some (.int .i64 (y : Int)) := own_get how i y (by rw [hi]; exact mid_y P S' _ x y)
       have hcmp := cmpDown_any x y bx ak nk ck keys
       have hiff := cmp_lt_down keys x y
       have hd : decide ((P.length : Int) < (i : Int) + 1) = true := by simp; omega
       have hsub : (i : Int) + 1 - 1 = (i : Int) := by omega
       have HCMP := hide hcmp
       have HKEYS := hide hkeys
       have HI := hide hi
       clear hcmp hkeys hi hi0 hks
       by_cases hxy : lts keys true x y = true
       · have hneg := hiff.2 hxy
         have HST : Hid (∀ m, (((wr.drewN m).setCell ⟨g, i + 1, none⟩ (.int .i64 (y : Int))).setCell ⟨g, i, none⟩ (.int .i64 (x : Int))).ownsRow base 3 1 (.slice (some ⟨g, 0, none⟩) n cap) n (cellsN (P ++ S' ++ x :: (y :: R ++ (rest ++ Q))))) := by
          intro m
          have hst := own_put (own_put (own_drew how m) (i + 1) y) i x
          rw [swap_mid P S' (R ++ (rest ++ Q)) y x i HI.out] at hst
          exact hst
         have f0 : wr.frozen? ⟨g, i, none⟩ = false := how.frozenAt i
         have f1 : wr.frozen? ⟨g, i + 1, none⟩ = false := how.frozenAt (i + 1)
         have HGB : Hid (∀ m, w.grownBy (((wr.drewN m).setCell ⟨g, i + 1, none⟩ (.int .i64 (y : Int))).setCell ⟨g, i, none⟩ (.int .i64 (x : Int))) (some g)) := fun m => gb_set (gb_set (gb_drew hgb m) (i + 1) _) i _
         have HRX : Hid (∀ r ∈ y :: R, lts keys true x r = true) := by
          intro r hr
          rcases List.mem_cons.1 hr with rfl | hr
          · exact hxy
          · exact hRx r hr
         have HSR : Hid (S' ++ (y :: R) = T) := by rw [Hid, ← hSR]; simp
         have HTT := hide (And.intro hsort (And.intro hltx (And.intro hperm hpt)))
         generalize cmpI (keys.getD y 0) (keys.getD x 0) = c at *
         clear how hgb hRx hSR hiff hxy hsort hltx hperm hpt
         go_wp2
         go_quiet ((go_at_call 66; exact Calls.quiet_of (HCMP.out _ (HKEYS.out.drewN _) hinx hyk)))
         go_wp2
         go_region
         go_wp2
         go_roundw
         case rel => exact ⟨S', y :: R, i, HSR.out, HI.out, by go_num, HRX.out, HST.out _, HGB.out _⟩
         case measure => simp [intOf]
       · have hxn : lts keys true x y = false := by simpa using hxy
         have hneg : ¬ cmpI (keys.getD y 0) (keys.getD x 0) < 0 := fun h => hxy (hiff.1 h)
         have hfin := ins_done (S := S' ++ [y]) (by rw [hSR]; exact hsort) (by rw [hSR]; exact hltx) hRx (Or.inr ⟨S', y, rfl, hxn⟩)
         have HFIN := hide hfin
         have hpp : ((S' ++ [y]) ++ x :: R).Perm (M.take (t + 1)) := by
          refine (ins_perm _ R x).trans ?_
          rw [hSR]; exact hpt
         have HPP := hide hpp
         have HOW := hide how
         have HGB := hide hgb
         generalize cmpI (keys.getD y 0) (keys.getD x 0) = c at *
         clear hfin how hgb hRx hSR hiff hxy hxn hsort hltx hperm hpt hpp
         go_wp2
         go_quiet ((go_at_call 66; exact Calls.quiet_of (HCMP.out _ (HKEYS.out.drewN _) hinx hyk)))
         go_wp2
         go_roundw
         case rel => exact ⟨t + 1, (S' ++ [y]) ++ x :: R, by omega, by omega, by go_num, HPP.out, HFIN.out, by rw [HR.out]; simpa using own_drew HOW.out _, gb_drew HGB.out _⟩
         case measure => simp [intOf]; omega
  · have htm : t = M.length := by omega
    subst htm
    rw [List.take_length] at hperm
    rw [List.drop_length, List.nil_append] at how
    go_wp2
    go_end0
    exact ⟨rfl, T, hperm, hsort, how, hgb⟩
end Go.Proofs.Ytcblpoeeembniaa
