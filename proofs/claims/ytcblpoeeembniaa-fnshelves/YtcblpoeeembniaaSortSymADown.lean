/- The library's symMerge where the left piece is one place (Down). -/
import Derived.Test.YtcblpoeeembniaaSortSwap
import Derived.Test.YtcblpoeeembniaaSortSymPlain
namespace Go.Proofs.Ytcblpoeeembniaa
open Go.RowKit

set_option maxRecDepth 100000 in
set_option maxHeartbeats 3200000 in
theorem symLeftDown (base g n cap bx : Nat) (ak : Option Addr) (nk ck : Nat) (keys : List Int) (P R Q : List Nat) (x : Nat) (A M B : Int) (w : World)
 (hA : A = P.length) (hM : M = P.length + 1) (hB : B = P.length + 1 + R.length) (hR0 : 1 ≤ R.length)
 (hown : w.ownsRow base 3 1 (.slice (some ⟨g, 0, none⟩) n cap) n (cellsN (P ++ [x] ++ R ++ Q))) (hk : Keys w bx ak nk ck keys) (hbx : bx ≠ g) (hak : ∀ x, ak = some x → x.block ≠ g)
 (hRs : R.Pairwise (bef keys true)) (hxR : ∀ y ∈ R, x < y) (hin : ∀ p ∈ R, p < nk) (hinx : x < nk) (hn : n ≤ 1048576) :
 Calls Try.prog 72 #[.slice (some ⟨g, 0, none⟩) n cap, .int .i64 A, .int .i64 M, .int .i64 B, .func (Fn.func 66) #[] #[.pointer (some ⟨bx, 0, none⟩)]] w fun e w' =>
  e = .returned (.tuple #[]) ∧ ∃ M', M'.Perm ([x] ++ R) ∧ M'.Pairwise (bef keys true) ∧ w'.ownsRow base 3 1 (.slice (some ⟨g, 0, none⟩) n cap) n (cellsN (P ++ M' ++ Q)) ∧ w.grownBy w' (some g) := by
 have hlen : P.length + 1 + R.length + Q.length = n := by have := hown.1; simp [cellsN] at this; omega
 obtain ⟨a, ha⟩ : ∃ a, a = P.length := ⟨_, rfl⟩
 rw [← ha] at hA hM hB hlen
 subst hA hM hB
 have HA := hide ha
 clear ha
 have hma : ((a : Int) + 1 - (a : Int) == 1) = true := by simp; omega
 go_enter Try.func72, Try.ntmps72
 go_wp2
 go_loopw [10, 11, 12] (fun i j _ wr => ∃ (u v : Nat), u ≤ v ∧ v ≤ R.length ∧ i = .int .i64 ((a : Int) + 1 + u) ∧ j = .int .i64 ((a : Int) + 1 + v) ∧ (u = 0 ∨ ∃ y, R[u - 1]? = some y ∧ bef keys true y x) ∧ (v = R.length ∨ ∃ y, R[v]? = some y ∧ bef keys true x y) ∧ wr.ownsRow base 3 1 (.slice (some ⟨g, 0, none⟩) n cap) n (cellsN (P ++ [x] ++ R ++ Q)) ∧ w.grownBy wr (some g)) (fun i j _ _ => (intOf j - intOf i).toNat)
 case atStart => exact ⟨0, R.length, Nat.zero_le _, Nat.le_refl _, by go_num, by go_num, Or.inl rfl, Or.inl rfl, hown, World.grownBy.refl _ _⟩
 case round =>
  obtain ⟨u, v, huv, hvR, rfl, rfl, h1, h2, hown1, hgb1⟩ := hrel
  have hk1 := hk.grown hgb1 hbx hak
  clear hown hk
  have H1 := hide h1
  have H2 := hide h2
  clear h1 h2
  by_cases hlt : u < v
  · obtain ⟨q, hq⟩ : ∃ q : Nat, q = (u + v) / 2 := ⟨_, rfl⟩
    obtain ⟨h, hh⟩ : ∃ h : Nat, ((a : Int) + 1 + u + ((a : Int) + 1 + v)) / 2 = (h : Int) := ⟨a + 1 + q, by omega⟩
    have hqv : u ≤ q ∧ q < v := by omega
    have hhq : h = a + 1 + q := by omega
    have hhn : h < n := by omega
    have han : a < n := by omega
    have hqR : q < R.length := by omega
    have c1 : wr.cell? ⟨g, h, none⟩ = some (.int .i64 (R[q] : Int)) := own_get hown1 h _ (by rw [hhq, HA.out]; exact at_R P R Q x q hqR)
    have c0 : wr.cell? ⟨g, a, none⟩ = some (.int .i64 (x : Int)) := own_get hown1 a _ (by rw [HA.out]; exact at_x P R Q x)
    have hiny : R[q] < nk := hin _ (List.getElem_mem hqR)
    have hxy : x < R[q] := hxR _ (List.getElem_mem hqR)
    have hRq : R[q]? = some R[q] := List.getElem?_eq_getElem hqR
    generalize R[q] = y at *
    have hcmp := cmpDown_any y x bx ak nk ck keys
    have hiff := cmp_lt_down keys y x
    have HCMP := hide hcmp
    have HKEYS := hide hk1
    have HOW := hide hown1
    have HGB := hide hgb1
    have HQ := hide hq
    have HHQ := hide hhq
    have HRQ := hide hRq
    clear hcmp hq hhq hk1 hRq hown1 hgb1
    by_cases hlts : lts keys true y x = true
    · have hneg := hiff.2 hlts
      have HB : Hid (bef keys true y x) := Or.inl hlts
      generalize cmpI (keys.getD x 0) (keys.getD y 0) = c at *
      clear hiff hlts
      go_wp2
      go_quiet ((go_at_call 66; exact Calls.quiet_of (HCMP.out _ (HKEYS.out.drewN _) hiny hinx)))
      go_wp2
      go_roundw
      case rel => exact ⟨q + 1, v, by omega, hvR, by have := HHQ.out; go_num, rfl, Or.inr ⟨y, by simpa using HRQ.out, HB.out⟩, H2.out, own_drew HOW.out _, gb_drew HGB.out _⟩
      case measure => simp [intOf]; have := HHQ.out; omega
    · have hneg : ¬ cmpI (keys.getD x 0) (keys.getD y 0) < 0 := fun h => hlts (hiff.1 h)
      have HB : Hid (bef keys true x y) := bef_of_not (by simpa using hlts) hxy
      generalize cmpI (keys.getD x 0) (keys.getD y 0) = c at *
      clear hiff hlts
      go_wp2
      go_quiet ((go_at_call 66; exact Calls.quiet_of (HCMP.out _ (HKEYS.out.drewN _) hiny hinx)))
      go_wp2
      go_roundw
      case rel => exact ⟨u, q, by omega, by omega, rfl, by have := HHQ.out; go_num, H1.out, Or.inr ⟨y, HRQ.out, HB.out⟩, own_drew HOW.out _, gb_drew HGB.out _⟩
      case measure => simp [intOf]; have := HHQ.out; omega
  · have huv' : u = v := by omega
    subst huv'
    have hfin := put_sorted hRs hvR H1.out H2.out
    have HFIN := hide hfin
    clear hfin H1 H2 hRs hlt huv hk1
    obtain ⟨wo, rfl⟩ : ∃ wo : World, wo = wr := ⟨_, rfl⟩
    go_wp2
    go_loopw [13] (fun k wr => ∃ (t : Nat), t ≤ u ∧ k = .int .i64 ((a : Int) + t) ∧ wr.ownsRow base 3 1 (.slice (some ⟨g, 0, none⟩) n cap) n (cellsN (P ++ R.take t ++ x :: (R.drop t ++ Q))) ∧ w.grownBy wr (some g)) (fun k _ => ((a : Int) + u - intOf k).toNat)
    case atStart => exact ⟨0, Nat.zero_le _, by go_num, by simpa using hown1, hgb1⟩
    case round =>
     obtain ⟨t, htu, rfl, how, hgb⟩ := hrel
     by_cases ht : t < u
     · have htR : t < R.length := by omega
       obtain ⟨i, hi⟩ : ∃ i : Nat, (a : Int) + t = (i : Int) := ⟨a + t, by omega⟩
       have hi' : i = (P ++ R.take t).length := by rw [List.length_append, List.length_take, ← HA.out]; omega
       have hin1 : i + 1 < n := by omega
       rw [List.drop_eq_getElem_cons htR] at how
       have c1 := own_get how i _ (at_1 (P ++ R.take t) [] (R.drop (t + 1) ++ Q) x R[t] i hi')
       have c2 := own_get how (i + 1) _ (at_2 (P ++ R.take t) [] (R.drop (t + 1) ++ Q) x R[t] (i + 1) (by rw [hi']; rfl))
       have f1 : wr.frozen? ⟨g, i, none⟩ = false := how.frozenAt i
       have f2 : wr.frozen? ⟨g, i + 1, none⟩ = false := how.frozenAt (i + 1)
       have HST : Hid (((wr.setCell ⟨g, i, none⟩ (.int .i64 (R[t] : Int))).setCell ⟨g, i + 1, none⟩ (.int .i64 (x : Int))).ownsRow base 3 1 (.slice (some ⟨g, 0, none⟩) n cap) n (cellsN (P ++ R.take (t + 1) ++ x :: (R.drop (t + 1) ++ Q)))) := by
        have hst := own_put (own_put how i R[t]) (i + 1) x
        have e := swap2 (P ++ R.take t) [] (R.drop (t + 1) ++ Q) x R[t] i (i + 1) hi' (by rw [hi']; rfl)
        simp only [List.nil_append] at e
        rw [List.cons_append, e, row_step P R _ x t htR] at hst
        exact hst
       have HGB : Hid (w.grownBy ((wr.setCell ⟨g, i, none⟩ (.int .i64 (R[t] : Int))).setCell ⟨g, i + 1, none⟩ (.int .i64 (x : Int))) (some g)) := gb_set (gb_set hgb i _) (i + 1) _
       generalize R[t] = z at *
       have HI := hide hi'
       clear how hgb hi' hown1 hgb1
       go_wp2
       go_region
       go_wp2
       go_roundw
       case rel => exact ⟨t + 1, by omega, by go_num, HST.out.drew, ⟨HGB.out.os, HGB.out.tape, HGB.out.output, HGB.out.size, HGB.out.block⟩⟩
       case measure => simp [intOf]; omega
     · have htu' : t = u := by omega
       subst htu'
       go_wp2
       first | go_end0 | refine bodyPost_ret (results_none rfl _ _ _) rfl ?_
       exact ⟨rfl, _, put_perm R x t, HFIN.out, by simpa using how, hgb⟩
end Go.Proofs.Ytcblpoeeembniaa
