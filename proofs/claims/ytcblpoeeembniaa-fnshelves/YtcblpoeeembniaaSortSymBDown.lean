/- The library's symMerge where the right piece is one place, and the left one more (Down). -/
import Derived.Test.YtcblpoeeembniaaSortSwap
import Derived.Test.YtcblpoeeembniaaSortSymPlain
namespace Go.Proofs.Ytcblpoeeembniaa
open Go.RowKit

set_option maxRecDepth 100000 in
set_option maxHeartbeats 3200000 in
theorem symRightDown (base g n cap bx : Nat) (ak : Option Addr) (nk ck : Nat) (keys : List Int) (P L Q : List Nat) (y : Nat) (A M B : Int) (w : World)
 (hA : A = P.length) (hM : M = P.length + L.length) (hB : B = P.length + L.length + 1) (hL0 : 2 ≤ L.length)
 (hown : w.ownsRow base 3 1 (.slice (some ⟨g, 0, none⟩) n cap) n (cellsN (P ++ L ++ [y] ++ Q))) (hk : Keys w bx ak nk ck keys) (hbx : bx ≠ g) (hak : ∀ x, ak = some x → x.block ≠ g)
 (hLs : L.Pairwise (bef keys true)) (hLy : ∀ x ∈ L, x < y) (hin : ∀ p ∈ L, p < nk) (hiny : y < nk) (hn : n ≤ 1048576) :
 Calls Try.prog 72 #[.slice (some ⟨g, 0, none⟩) n cap, .int .i64 A, .int .i64 M, .int .i64 B, .func (Fn.func 66) #[] #[.pointer (some ⟨bx, 0, none⟩)]] w fun e w' =>
  e = .returned (.tuple #[]) ∧ ∃ M', M'.Perm (L ++ [y]) ∧ M'.Pairwise (bef keys true) ∧ w'.ownsRow base 3 1 (.slice (some ⟨g, 0, none⟩) n cap) n (cellsN (P ++ M' ++ Q)) ∧ w.grownBy w' (some g) := by
 have hlen : P.length + L.length + 1 + Q.length = n := by have := hown.1; simp [cellsN] at this; omega
 obtain ⟨a, ha⟩ : ∃ a, a = P.length := ⟨_, rfl⟩
 obtain ⟨m, hm⟩ : ∃ m, m = P.length + L.length := ⟨_, rfl⟩
 have hA' : A = (a : Int) := by omega
 have hM' : M = (m : Int) := by omega
 have hB' : B = (m : Int) + 1 := by omega
 have ham : a + L.length = m := by omega
 have hmn : m + 1 + Q.length = n := by omega
 subst hA' hM' hB'
 have HA := hide ha
 have HMM := hide hm
 clear hA hM hB ha hm hlen
 have hma : ((m : Int) - (a : Int) == 1) = false := by simp; omega
 have hbm : ((m : Int) + 1 - (m : Int) == 1) = true := by simp; omega
 have HAM := hide ham
 have ham2 : a + 2 ≤ m := by omega
 have hmn2 : m < n := by omega
 clear ham hmn
 go_enter Try.func72, Try.ntmps72
 go_wp2
 go_loopw [14, 15, 16] (fun i j _ wr => ∃ (u v : Nat), u ≤ v ∧ v ≤ L.length ∧ i = .int .i64 ((a : Int) + u) ∧ j = .int .i64 ((a : Int) + v) ∧ (u = 0 ∨ ∃ x, L[u - 1]? = some x ∧ bef keys true x y) ∧ (v = L.length ∨ ∃ x, L[v]? = some x ∧ bef keys true y x) ∧ wr.ownsRow base 3 1 (.slice (some ⟨g, 0, none⟩) n cap) n (cellsN (P ++ L ++ [y] ++ Q)) ∧ w.grownBy wr (some g)) (fun i j _ _ => (intOf j - intOf i).toNat)
 case atStart => exact ⟨0, L.length, Nat.zero_le _, Nat.le_refl _, by go_num, by have := HAM.out; go_num, Or.inl rfl, Or.inl rfl, hown, World.grownBy.refl _ _⟩
 case round =>
  obtain ⟨u, v, huv, hvL, rfl, rfl, h1, h2, hown1, hgb1⟩ := hrel
  have hk1 := hk.grown hgb1 hbx hak
  clear hown hk
  have H1 := hide h1
  have H2 := hide h2
  have havm : a + v ≤ m := by have := HAM.out; omega
  clear h1 h2
  by_cases hlt : u < v
  · obtain ⟨q, hq⟩ : ∃ q : Nat, q = (a + u + (a + v)) / 2 - a := ⟨_, rfl⟩
    obtain ⟨h, hh⟩ : ∃ h : Nat, ((a : Int) + u + ((a : Int) + v)) / 2 = (h : Int) := ⟨a + q, by omega⟩
    have hqv : u ≤ q ∧ q < v := by omega
    have hhq : h = a + q := by omega
    have hhn : h < n := by omega
    have hqL : q < L.length := by omega
    have c1 : wr.cell? ⟨g, h, none⟩ = some (.int .i64 (L[q] : Int)) := own_get hown1 h _ (by rw [hhq, HA.out]; exact at_L P L _ Q q hqL)
    have c0 : wr.cell? ⟨g, m, none⟩ = some (.int .i64 (y : Int)) := own_get hown1 m _ (by rw [HMM.out]; exact at_y P L Q y)
    have hinx : L[q] < nk := hin _ (List.getElem_mem hqL)
    have hxy : L[q] < y := hLy _ (List.getElem_mem hqL)
    have hLq : L[q]? = some L[q] := List.getElem?_eq_getElem hqL
    generalize L[q] = x at *
    have hcmp := cmpDown_any y x bx ak nk ck keys
    have hiff := cmp_lt_down keys y x
    have HCMP := hide hcmp
    have HKEYS := hide hk1
    have HOW := hide hown1
    have HGB := hide hgb1
    have HQ := hide hq
    have HHQ := hide hhq
    have HLQ := hide hLq
    clear hcmp hq hhq hk1 hLq hown1 hgb1
    by_cases hlts : lts keys true y x = true
    · have hneg := hiff.2 hlts
      have HB : Hid (bef keys true y x) := Or.inl hlts
      generalize cmpI (keys.getD x 0) (keys.getD y 0) = c at *
      clear hiff hlts
      go_wp2
      go_quiet ((go_at_call 66; exact Calls.quiet_of (HCMP.out _ (HKEYS.out.drewN _) hiny hinx)))
      go_wp2
      go_roundw
      case rel => exact ⟨u, q, by omega, by omega, rfl, by have := HHQ.out; go_num, H1.out, Or.inr ⟨x, HLQ.out, HB.out⟩, own_drew HOW.out _, gb_drew HGB.out _⟩
      case measure => simp [intOf]; have := HHQ.out; omega
    · have hneg : ¬ cmpI (keys.getD x 0) (keys.getD y 0) < 0 := fun h => hlts (hiff.1 h)
      have HB : Hid (bef keys true x y) := bef_of_not (by simpa using hlts) hxy
      generalize cmpI (keys.getD x 0) (keys.getD y 0) = c at *
      have hd : decide (c < 0) = false := by simpa using hneg
      clear hiff hlts
      go_wp2
      go_quiet ((go_at_call 66; exact Calls.quiet_of (HCMP.out _ (HKEYS.out.drewN _) hiny hinx)))
      go_wp2
      go_roundw
      case rel => exact ⟨q + 1, v, by omega, hvL, by have := HHQ.out; go_num, rfl, Or.inr ⟨x, by simpa using HLQ.out, HB.out⟩, H2.out, own_drew HOW.out _, gb_drew HGB.out _⟩
      case measure => simp [intOf]; have := HHQ.out; omega
  · have huv' : u = v := by omega
    subst huv'
    have hfin := put_sorted hLs hvL H1.out H2.out
    have HFIN := hide hfin
    clear hfin H1 H2 hLs hlt huv hk1
    obtain ⟨wo, rfl⟩ : ∃ wo : World, wo = wr := ⟨_, rfl⟩
    go_wp2
    go_loopw [17] (fun k wr => ∃ (t : Nat), u ≤ t ∧ t ≤ L.length ∧ k = .int .i64 ((a : Int) + t) ∧ wr.ownsRow base 3 1 (.slice (some ⟨g, 0, none⟩) n cap) n (cellsN (P ++ L.take t ++ y :: (L.drop t ++ Q))) ∧ w.grownBy wr (some g)) (fun k _ => (intOf k).toNat)
    case atStart => exact ⟨L.length, hvL, Nat.le_refl _, by have := HAM.out; go_num, by simpa using hown1, hgb1⟩
    case round =>
     obtain ⟨t, hut, htL, rfl, how, hgb⟩ := hrel
     by_cases ht : u < t
     · obtain ⟨t', rfl⟩ : ∃ t', t = t' + 1 := ⟨t - 1, by omega⟩
       have htL' : t' < L.length := by omega
       obtain ⟨i, hi⟩ : ∃ i : Nat, i = a + t' := ⟨_, rfl⟩
       have hi1 : (a : Int) + ((t' + 1 : Nat) : Int) = (i : Int) + 1 := by omega
       have hi2 : (i : Int) + 1 - 1 = (i : Int) := by omega
       have hi' : i = P.length + (L.take t').length := by rw [List.length_take, ← HA.out]; omega
       have hin1 : i + 1 < n := by have := HAM.out; omega
       have hui : (a : Int) + u < (i : Int) + 1 := by omega
       rw [List.take_succ_eq_append_getElem htL'] at how
       have c1 := own_get how (i + 1) _ (by rw [hi']; exact mid_x P (L.take t') (L.drop (t' + 1) ++ Q) y L[t'])
       have c2 := own_get how i _ (by rw [hi']; exact mid_y P (L.take t') (L.drop (t' + 1) ++ Q) y L[t'])
       have f1 : wr.frozen? ⟨g, i, none⟩ = false := how.frozenAt i
       have f2 : wr.frozen? ⟨g, i + 1, none⟩ = false := how.frozenAt (i + 1)
       have HST : Hid (((wr.setCell ⟨g, i + 1, none⟩ (.int .i64 (L[t'] : Int))).setCell ⟨g, i, none⟩ (.int .i64 (y : Int))).ownsRow base 3 1 (.slice (some ⟨g, 0, none⟩) n cap) n (cellsN (P ++ L.take t' ++ y :: (L.drop t' ++ Q)))) := by
        have hst := own_put (own_put how (i + 1) L[t']) i y
        rw [swap_mid P (L.take t') (L.drop (t' + 1) ++ Q) L[t'] y i hi'] at hst
        rw [List.drop_eq_getElem_cons htL']
        exact hst
       have HGB : Hid (w.grownBy ((wr.setCell ⟨g, i + 1, none⟩ (.int .i64 (L[t'] : Int))).setCell ⟨g, i, none⟩ (.int .i64 (y : Int))) (some g)) := gb_set (gb_set hgb (i + 1) _) i _
       generalize L[t'] = z at *
       have HI := hide hi
       clear how hgb hi' hown1 hgb1 hi
       rw [hi1]
       clear hi1
       go_wp2
       go_region
       go_wp2
       go_roundw
       case rel => exact ⟨t', by omega, by omega, by have := HI.out; go_num, HST.out.drew, ⟨HGB.out.os, HGB.out.tape, HGB.out.output, HGB.out.size, HGB.out.block⟩⟩
       case measure => simp [intOf]
     · have htu' : t = u := by omega
       subst htu'
       go_wp2
       first | go_end0 | refine bodyPost_ret (results_none rfl _ _ _) rfl ?_
       exact ⟨rfl, _, put_perm' L y t, HFIN.out, by simpa using how, hgb⟩
end Go.Proofs.Ytcblpoeeembniaa
