/- The library's symMerge: its recursive step (Down, A). -/
import Derived.Test.YtcblpoeeembniaaSortSwap
import Derived.Test.YtcblpoeeembniaaSortSymPlain
import Derived.Test.YtcblpoeeembniaaSortSymSaidDown
namespace Go.Proofs.Ytcblpoeeembniaa
open Go.RowKit

set_option maxRecDepth 100000 in
set_option maxHeartbeats 12800000 in
theorem symStepDownA (base g n cap bx : Nat) (ak : Option Addr) (nk ck : Nat) (keys : List Int) (N : Nat) (ih : SymSaidDown base g n cap bx ak nk ck keys N) (hbx : bx ≠ g) (hak : ∀ x, ak = some x → x.block ≠ g) (hn : n ≤ 1048576)
 (P L R Q : List Nat) (a m b mid : Nat) (w : World) (hN : L.length + R.length ≤ N + 1) (ha : a = P.length) (hm : m = P.length + L.length) (hb : b = P.length + L.length + R.length) (hL0 : 2 ≤ L.length) (hR0 : 2 ≤ R.length) (hmid : mid = (a + b) / 2) (hmm : mid < m)
 (hown : w.ownsRow base 3 1 (.slice (some ⟨g, 0, none⟩) n cap) n (cellsN (P ++ L ++ R ++ Q))) (hk : Keys w bx ak nk ck keys)
 (hLs : L.Pairwise (bef keys true)) (hRs : R.Pairwise (bef keys true)) (hLR : ∀ x ∈ L, ∀ y ∈ R, x < y) (hin : ∀ p ∈ L ++ R, p < nk) :
 Calls Try.prog 72 #[.slice (some ⟨g, 0, none⟩) n cap, .int .i64 (a : Int), .int .i64 (m : Int), .int .i64 (b : Int), .func (Fn.func 66) #[] #[.pointer (some ⟨bx, 0, none⟩)]] w fun e w' =>
  e = .returned (.tuple #[]) ∧ ∃ M', M'.Perm (L ++ R) ∧ M'.Pairwise (bef keys true) ∧ w'.ownsRow base 3 1 (.slice (some ⟨g, 0, none⟩) n cap) n (cellsN (P ++ M' ++ Q)) ∧ w.grownBy w' (some g) := by
 have hlen : P.length + L.length + R.length + Q.length = n := by have := hown.1; simp [cellsN] at this; omega
 obtain ⟨h, hh⟩ : ∃ h, h = mid - a := ⟨_, rfl⟩
 have HA := hide ha
 have HM := hide hm
 have HBB := hide hb
 have HH := hide hh
 have HL := hide (show a + L.length = m by omega)
 have HR := hide (show m + R.length = b by omega)
 have HIH := hide ih
 have ham2 : a + 2 ≤ m := by omega
 have hmb2 : m + 2 ≤ b := by omega
 have hbn : b ≤ n := by omega
 have hmid1 : a < mid ∧ mid < b := by omega
 have HMID := hide hmid
 have hma : ((m : Int) - (a : Int) == 1) = false := by simp; omega
 have hbm : ((b : Int) - (m : Int) == 1) = false := by simp; omega
 have hmide : ((a : Int) + (b : Int)) / 2 = (mid : Int) := by omega
 obtain ⟨nn, hnn⟩ : ∃ nn : Nat, (mid : Int) + (m : Int) = (nn : Int) := ⟨mid + m, by omega⟩
 have HNN := hide (show nn = mid + m by omega)
 have hnnb : nn ≤ 2097152 := by omega
 have hpp : (nn : Int) - 1 = ((nn - 1 : Nat) : Int) := by omega
 obtain ⟨pp, hpp'⟩ : ∃ pp : Nat, pp = nn - 1 := ⟨_, rfl⟩
 rw [← hpp'] at hpp
 have HPP := hide (show pp + 1 = mid + m by omega)
 obtain ⟨st, hst⟩ : ∃ st : Nat, (nn : Int) - (b : Int) = (st : Int) := ⟨mid + m - b, by omega⟩
 have HST := hide (show st = mid + m - b by omega)
 have HNB := hide hN
 clear ha hm hb hmid ih hlen hh hpp' hN
 go_enter Try.func72, Try.ntmps72
 go_wp2
 go_loopw [20, 21, 23] (fun i j _ wr => ∃ (l r : Nat), h - R.length ≤ l ∧ l ≤ r ∧ r ≤ h ∧ r ≤ L.length ∧ i = .int .i64 ((a : Int) + l) ∧ j = .int .i64 ((a : Int) + r) ∧ (l = h - R.length ∨ ∃ x y, L[l - 1]? = some x ∧ R[h - l]? = some y ∧ lts keys true y x = false ∧ 1 ≤ l) ∧ (r = L.length ∨ r = h ∨ ∃ x y, L[r]? = some x ∧ R[h - r - 1]? = some y ∧ lts keys true y x = true ∧ r < h) ∧ wr.ownsRow base 3 1 (.slice (some ⟨g, 0, none⟩) n cap) n (cellsN (P ++ L ++ R ++ Q)) ∧ w.grownBy wr (some g)) (fun i j _ _ => (intOf j - intOf i).toNat)
 case atStart =>
  have e1 := HL.out
  have e2 := HR.out
  have e3 := HH.out
  have e4 := HMID.out
  have e5 := HNN.out
  exact ⟨h - R.length, h, Nat.le_refl _, by omega, Nat.le_refl _, by omega, by have := HST.out; go_num, by go_num, Or.inl rfl, Or.inr (Or.inl rfl), hown, World.grownBy.refl _ _⟩
 case round =>
  obtain ⟨l, r, hlo, hlr, hrh, hrL, rfl, rfl, h1, h2, hown1, hgb1⟩ := hrel
  have hk1 := hk.grown hgb1 hbx hak
  clear hown hk
  have H1 := hide h1
  have H2 := hide h2
  have e1 := HL.out
  have e2 := HR.out
  have e3 := HH.out
  have e4 := HPP.out
  have harm : a + r ≤ m := by omega
  clear h1 h2
  by_cases hlt : l < r
  · obtain ⟨q, hq⟩ : ∃ q : Nat, q = (a + l + (a + r)) / 2 - a := ⟨_, rfl⟩
    obtain ⟨c, hc⟩ : ∃ c : Nat, ((a : Int) + l + ((a : Int) + r)) / 2 = (c : Int) := ⟨a + q, by omega⟩
    have hqv : l ≤ q ∧ q < r := by omega
    have hcq : c = a + q := by omega
    have hcn : c < n := by omega
    have hqL : q < L.length := by omega
    have hqR : h - q - 1 < R.length := by omega
    obtain ⟨d, hd⟩ : ∃ d : Nat, (pp : Int) - (c : Int) = (d : Int) := ⟨m + (h - q - 1), by omega⟩
    have hdq : d = m + (h - q - 1) := by omega
    have hdn : d < n := by omega
    have c1 : wr.cell? ⟨g, c, none⟩ = some (.int .i64 (L[q] : Int)) := own_get hown1 c _ (by rw [hcq, HA.out]; exact at_L P L R Q q hqL)
    have c2 : wr.cell? ⟨g, d, none⟩ = some (.int .i64 (R[h - q - 1] : Int)) := own_get hown1 d _ (by rw [hdq, HM.out]; exact at_RR P L R Q _ hqR)
    have hinx : L[q] < nk := hin _ (List.mem_append_left _ (List.getElem_mem hqL))
    have hiny : R[h - q - 1] < nk := hin _ (List.mem_append_right _ (List.getElem_mem hqR))
    have hLq : L[q]? = some L[q] := List.getElem?_eq_getElem hqL
    have hRq : R[h - q - 1]? = some R[h - q - 1] := List.getElem?_eq_getElem hqR
    generalize L[q] = x at *
    generalize R[h - q - 1] = y at *
    have hcmp := cmpDown_any y x bx ak nk ck keys
    have hiff := cmp_lt_down keys y x
    have HCMP := hide hcmp
    have HKEYS := hide hk1
    have HOW := hide hown1
    have HGB := hide hgb1
    have HCQ := hide hcq
    have HLQ := hide hLq
    have HRQ := hide hRq
    clear hcmp hq hcq hdq hk1 hLq hRq hown1 hgb1 e1 e2 e3 e4
    by_cases hlts : lts keys true y x = true
    · have hneg := hiff.2 hlts
      generalize cmpI (keys.getD x 0) (keys.getD y 0) = cc at *
      have hdd : decide (cc < 0) = true := by simpa using hneg
      have HLTS := hide hlts
      clear hiff hlts
      go_wp2
      go_quiet ((go_at_call 66; exact Calls.quiet_of (HCMP.out _ (HKEYS.out.drewN _) hiny hinx)))
      go_wp2
      go_roundw
      case rel => exact ⟨l, q, hlo, by omega, by omega, by omega, rfl, by have := HCQ.out; go_num, H1.out, Or.inr (Or.inr ⟨x, y, HLQ.out, HRQ.out, HLTS.out, by omega⟩), own_drew HOW.out _, gb_drew HGB.out _⟩
      case measure => simp [intOf]; have := HCQ.out; omega
    · have hneg : ¬ cmpI (keys.getD x 0) (keys.getD y 0) < 0 := fun h => hlts (hiff.1 h)
      generalize cmpI (keys.getD x 0) (keys.getD y 0) = cc at *
      have hdd : decide (cc < 0) = false := by simpa using hneg
      have HLTS : Hid (lts keys true y x = false) := by simpa [Hid] using hlts
      clear hiff hlts
      go_wp2
      go_quiet ((go_at_call 66; exact Calls.quiet_of (HCMP.out _ (HKEYS.out.drewN _) hiny hinx)))
      go_wp2
      go_roundw
      case rel => exact ⟨q + 1, r, by omega, by omega, hrh, hrL, by have := HCQ.out; go_num, rfl, Or.inr ⟨x, y, by simpa using HLQ.out, by rw [show h - (q + 1) = h - q - 1 from by omega]; exact HRQ.out, HLTS.out, by omega⟩, H2.out, own_drew HOW.out _, gb_drew HGB.out _⟩
      case measure => simp [intOf]; have := HCQ.out; omega
  · have hlr' : l = r := by omega
    subst hlr'
    have hcross := sym_left_right hLs hRs hLR hrh H1.out H2.out
    have HC := hide hcross
    have hsp := rows_split P L R Q l (h - l)
    rw [hsp] at hown1
    have hl1 : (L.take l).length = l := by rw [List.length_take]; omega
    have hl2 : (L.drop l).length = L.length - l := List.length_drop ..
    have hl3 : (R.take (h - l)).length = h - l := by rw [List.length_take]; omega
    have hl4 : (R.drop (h - l)).length = R.length - (h - l) := List.length_drop ..
    have s1 := take_sorted hLs l
    have s2 := drop_sorted hLs l
    have s3 := take_sorted hRs (h - l)
    have s4 := drop_sorted hRs (h - l)
    have x13 : ∀ x ∈ L.take l, ∀ y ∈ R.take (h - l), x < y := fun x hx y hy => hLR x (List.mem_of_mem_take hx) y (List.mem_of_mem_take hy)
    have x24 : ∀ x ∈ L.drop l, ∀ y ∈ R.drop (h - l), x < y := fun x hx y hy => hLR x (List.mem_of_mem_drop hx) y (List.mem_of_mem_drop hy)
    have i13 : ∀ p ∈ L.take l ++ R.take (h - l), p < nk := fun p hp => by
     rcases List.mem_append.1 hp with hp | hp
     · exact hin p (List.mem_append_left _ (List.mem_of_mem_take hp))
     · exact hin p (List.mem_append_right _ (List.mem_of_mem_take hp))
    have i24 : ∀ p ∈ L.drop l ++ R.drop (h - l), p < nk := fun p hp => by
     rcases List.mem_append.1 hp with hp | hp
     · exact hin p (List.mem_append_left _ (List.mem_of_mem_drop hp))
     · exact hin p (List.mem_append_right _ (List.mem_of_mem_drop hp))
    have hperm : ∀ M1 M2 : List Nat, M1.Perm (L.take l ++ R.take (h - l)) → M2.Perm (L.drop l ++ R.drop (h - l)) → (M1 ++ M2).Perm (L ++ R) := fun M1 M2 p1 p2 => sym_perm p1 p2
    have HPERM := hide hperm
    have hqr : ∃ (q r' : Nat), q = L.length - l ∧ r' = R.length - (h - l) := ⟨_, _, rfl, rfl⟩
    obtain ⟨q2, r2, hq2, hr2⟩ := hqr
    obtain ⟨r1, hr1⟩ : ∃ r1, r1 = h - l := ⟨_, rfl⟩
    rw [← hr1] at hl3 hl4 hown1 s3 s4 x13 x24 i13 i24
    have HC' : Hid (∀ z ∈ L.take l ++ R.take r1, ∀ z' ∈ L.drop l ++ R.drop r1, bef keys true z z') := by rw [hr1]; exact HC.out
    have HPERM' : Hid (∀ M1 M2 : List Nat, M1.Perm (L.take l ++ R.take r1) → M2.Perm (L.drop l ++ R.drop r1) → (M1 ++ M2).Perm (L ++ R)) := by rw [hr1]; exact HPERM.out
    rw [← hq2] at hl2
    have hr2' : (R.drop r1).length = r2 := by omega
    have a1 : a + l + q2 = m := by omega
    have a2 : a + l + r1 = mid := by omega
    have a3 : mid + q2 + r2 = b := by omega
    have a4 : m + r1 + r2 = b := by omega
    obtain ⟨en, hen⟩ : ∃ en : Nat, (nn : Int) - ((a : Int) + l) = (en : Int) := ⟨mid + q2, by have := HNN.out; omega⟩
    have hen' : en = mid + q2 := by have := HNN.out; omega
    have HN1 : Hid (l + r1 ≤ N) := by have := HNB.out; have : l + r1 = h := by omega
                                      show l + r1 ≤ N; omega
    have HN2 : Hid (q2 + r2 ≤ N) := by have := HNB.out; show q2 + r2 ≤ N; omega
    generalize L.take l = L1 at *
    generalize L.drop l = L2 at *
    generalize R.take r1 = R1 at *
    generalize R.drop r1 = R2 at *
    have HL1 := hide hl1
    have HL2 := hide hl2
    have HL3 := hide hl3
    have HL4 := hide hr2'
    have B1 := hide a1
    have B2 := hide a2
    have B3 := hide a3
    have B4 := hide a4
    have HEN := hide hen'
    have ine1 : a + l ≤ m ∧ a + l ≤ mid ∧ mid ≤ en ∧ en ≤ b ∧ m ≤ en := by omega
    have HS1 := hide s1
    have HS2 := hide s2
    have HS3 := hide s3
    have HS4 := hide s4
    have HX13 := hide x13
    have HX24 := hide x24
    have HI13 := hide i13
    have HI24 := hide i24
    clear hcross hsp hl1 hl2 hl3 hl4 hr2' a1 a2 a3 a4 hen' e1 e2 e3 e4 hr1 hq2 hr2 s1 s2 s3 s4 x13 x24 i13 i24 hperm H1 H2 HC HPERM hLs hRs hLR hin hlt hrh hrL hlo hlr harm
    have HGB := hide hgb1
    have HKEYS := hide hk1
    have HOW := hide hown1
    clear hgb1 hk1 hown1
    have hcs : (l ≤ 0 ∧ 1 ≤ q2 ∧ 1 ≤ r1 ∧ r2 ≤ 0) ∨ (1 ≤ l ∧ 1 ≤ q2 ∧ r1 ≤ 0 ∧ 1 ≤ r2) ∨ (1 ≤ l ∧ 1 ≤ q2 ∧ 1 ≤ r1 ∧ r2 ≤ 0) ∨ (1 ≤ l ∧ 1 ≤ q2 ∧ 1 ≤ r1 ∧ 1 ≤ r2) := by have := B1.out; have := B2.out; have := B3.out; have := B4.out; have := HMID.out; omega
    rcases hcs with ⟨z1, z2, z3, z4⟩ | ⟨z1, z2, z3, z4⟩ | ⟨z1, z2, z3, z4⟩ | ⟨z1, z2, z3, z4⟩
    · have T1 : ((a : Int) + l < (m : Int)) := by have := B1.out; omega
      have T2 : ((m : Int) < (en : Int)) := by have := B1.out; have := B2.out; have := HEN.out; omega
      have T3 : ¬ ((a : Int) < (a : Int) + l) := by omega
      have T4 : ((a : Int) + l < (mid : Int)) := by have := B2.out; omega
      have T5 : ((mid : Int) < (en : Int)) := by have := HEN.out; omega
      have T6 : ¬ ((en : Int) < (b : Int)) := by have := HEN.out; have := B3.out; omega
      go_wp2_with fail
      refine (rotate_any base g n cap (P ++ L1) L2 R1 (R2 ++ Q) _ _ _ _ _ ?_ ?_ ?_ ?_ ?_ HOW.out hn).mono ?_
      · rw [List.length_append, HL1.out, ← HA.out]; omega
      · rw [List.length_append, HL1.out, HL2.out, ← HA.out]; have := B1.out; omega
      · rw [List.length_append, HL1.out, HL2.out, HL3.out, ← HA.out]; have := B1.out; have := B2.out; have := HEN.out; omega
      · rw [HL2.out]; omega
      · rw [HL3.out]; omega
      rintro e w1 ⟨rfl, ho1, hg1⟩
      have G1 := hide (gb_trans HGB.out hg1)
      have K1 := hide (HKEYS.out.grown hg1 hbx hak)
      have O1 : Hid (w1.ownsRow base 3 1 (.slice (some ⟨g, 0, none⟩) n cap) n (cellsN (P ++ L1 ++ R1 ++ (L2 ++ R2 ++ Q)))) := by
       show w1.ownsRow base 3 1 (.slice (some ⟨g, 0, none⟩) n cap) n (cellsN (P ++ L1 ++ R1 ++ (L2 ++ R2 ++ Q)))
       simpa using ho1
      clear ho1 hg1 HGB HKEYS HOW
      have hnil1 : L1 = [] := List.length_eq_zero_iff.1 (by rw [HL1.out]; omega)
      have G2 := hide G1.out
      have K2 := hide K1.out
      obtain ⟨M1, hM1⟩ : ∃ M1, M1 = L1 ++ R1 := ⟨_, rfl⟩
      have P1 : Hid (M1.Perm (L1 ++ R1)) := by rw [hM1]; exact List.Perm.refl _
      have S1 : Hid (M1.Pairwise (bef keys true)) := by
       show M1.Pairwise (bef keys true)
       rw [hM1, hnil1]; simpa using HS3.out
      have O2 : Hid (w1.ownsRow base 3 1 (.slice (some ⟨g, 0, none⟩) n cap) n (cellsN (P ++ M1 ++ L2 ++ R2 ++ Q))) := by
       show w1.ownsRow base 3 1 (.slice (some ⟨g, 0, none⟩) n cap) n (cellsN (P ++ M1 ++ L2 ++ R2 ++ Q))
       rw [hM1]; simpa using O1.out
      clear hnil1 hM1 G1 K1 O1
      have HM1 : Hid (M1.length = l + r1) := by rw [Hid, P1.out.length_eq, List.length_append, HL1.out, HL3.out]
      have hnil2 : R2 = [] := List.length_eq_zero_iff.1 (by rw [HL4.out]; omega)
      obtain ⟨M2, hM2⟩ : ∃ M2, M2 = L2 ++ R2 := ⟨_, rfl⟩
      have P2 : Hid (M2.Perm (L2 ++ R2)) := by rw [hM2]; exact List.Perm.refl _
      have S2 : Hid (M2.Pairwise (bef keys true)) := by
       show M2.Pairwise (bef keys true)
       rw [hM2, hnil2]; simpa using HS2.out
      have G3 := hide G2.out
      have O3 : Hid (w1.ownsRow base 3 1 (.slice (some ⟨g, 0, none⟩) n cap) n (cellsN (P ++ M1 ++ M2 ++ Q))) := by
       show w1.ownsRow base 3 1 (.slice (some ⟨g, 0, none⟩) n cap) n (cellsN (P ++ M1 ++ M2 ++ Q))
       rw [hM2]; simpa using O2.out
      clear hnil2 hM2 G2 K2 O2
      go_wp2
      first | go_end0 | refine bodyPost_ret (results_none rfl _ _ _) rfl ?_
      exact ⟨rfl, M1 ++ M2, HPERM'.out M1 M2 P1.out P2.out, sym_sorted HC'.out P1.out P2.out S1.out S2.out, by simpa using O3.out, G3.out⟩
    · have T1 : ((a : Int) + l < (m : Int)) := by have := B1.out; omega
      have T2 : ¬ ((m : Int) < (en : Int)) := by have := B1.out; have := B2.out; have := HEN.out; omega
      have T3 : ((a : Int) < (a : Int) + l) := by omega
      have T4 : ¬ ((a : Int) + l < (mid : Int)) := by have := B2.out; omega
      have T5 : ((mid : Int) < (en : Int)) := by have := HEN.out; omega
      have T6 : ((en : Int) < (b : Int)) := by have := HEN.out; have := B3.out; omega
      have hnil : R1 = [] := List.length_eq_zero_iff.1 (by rw [HL3.out]; omega)
      have G1 := hide HGB.out
      have K1 := hide HKEYS.out
      have O1 : Hid (wr.ownsRow base 3 1 (.slice (some ⟨g, 0, none⟩) n cap) n (cellsN (P ++ L1 ++ R1 ++ (L2 ++ R2 ++ Q)))) := by
       show wr.ownsRow base 3 1 (.slice (some ⟨g, 0, none⟩) n cap) n (cellsN (P ++ L1 ++ R1 ++ (L2 ++ R2 ++ Q)))
       have := HOW.out
       rw [hnil] at this ⊢
       simpa using this
      clear HGB HKEYS HOW hnil
      have hnil1 : R1 = [] := List.length_eq_zero_iff.1 (by rw [HL3.out]; omega)
      have G2 := hide G1.out
      have K2 := hide K1.out
      obtain ⟨M1, hM1⟩ : ∃ M1, M1 = L1 ++ R1 := ⟨_, rfl⟩
      have P1 : Hid (M1.Perm (L1 ++ R1)) := by rw [hM1]; exact List.Perm.refl _
      have S1 : Hid (M1.Pairwise (bef keys true)) := by
       show M1.Pairwise (bef keys true)
       rw [hM1, hnil1]; simpa using HS1.out
      have O2 : Hid (wr.ownsRow base 3 1 (.slice (some ⟨g, 0, none⟩) n cap) n (cellsN (P ++ M1 ++ L2 ++ R2 ++ Q))) := by
       show wr.ownsRow base 3 1 (.slice (some ⟨g, 0, none⟩) n cap) n (cellsN (P ++ M1 ++ L2 ++ R2 ++ Q))
       rw [hM1]; simpa using O1.out
      clear hnil1 hM1 G1 K1 O1
      have HM1 : Hid (M1.length = l + r1) := by rw [Hid, P1.out.length_eq, List.length_append, HL1.out, HL3.out]
      go_wp2_with fail
      refine (HIH.out (P ++ M1) L2 R2 Q _ _ _ _ ?_ ?_ ?_ ?_ ?_ ?_ O2.out K2.out HS2.out HS4.out HX24.out HI24.out).mono ?_
      · rw [HL2.out, HL4.out]; exact HN2.out
      · rw [HL2.out]; omega
      · rw [HL4.out]; omega
      · rw [List.length_append, HM1.out, ← HA.out]; have := B2.out; omega
      · rw [List.length_append, HM1.out, HL2.out, ← HA.out]; have := B2.out; have := HEN.out; omega
      · rw [List.length_append, HM1.out, HL2.out, HL4.out, ← HA.out]; have := B2.out; have := B3.out; omega
      rintro e w3 ⟨rfl, M2, hp2, hs2, ho3, hg3⟩
      have P2 := hide hp2
      have S2 := hide hs2
      have G3 := hide (gb_trans G2.out hg3)
      have O3 := hide ho3
      clear hp2 hs2 ho3 hg3 G2 K2 O2
      go_wp2
      first | go_end0 | refine bodyPost_ret (results_none rfl _ _ _) rfl ?_
      exact ⟨rfl, M1 ++ M2, HPERM'.out M1 M2 P1.out P2.out, sym_sorted HC'.out P1.out P2.out S1.out S2.out, by simpa using O3.out, G3.out⟩
    · have T1 : ((a : Int) + l < (m : Int)) := by have := B1.out; omega
      have T2 : ((m : Int) < (en : Int)) := by have := B1.out; have := B2.out; have := HEN.out; omega
      have T3 : ((a : Int) < (a : Int) + l) := by omega
      have T4 : ((a : Int) + l < (mid : Int)) := by have := B2.out; omega
      have T5 : ((mid : Int) < (en : Int)) := by have := HEN.out; omega
      have T6 : ¬ ((en : Int) < (b : Int)) := by have := HEN.out; have := B3.out; omega
      go_wp2_with fail
      refine (rotate_any base g n cap (P ++ L1) L2 R1 (R2 ++ Q) _ _ _ _ _ ?_ ?_ ?_ ?_ ?_ HOW.out hn).mono ?_
      · rw [List.length_append, HL1.out, ← HA.out]; omega
      · rw [List.length_append, HL1.out, HL2.out, ← HA.out]; have := B1.out; omega
      · rw [List.length_append, HL1.out, HL2.out, HL3.out, ← HA.out]; have := B1.out; have := B2.out; have := HEN.out; omega
      · rw [HL2.out]; omega
      · rw [HL3.out]; omega
      rintro e w1 ⟨rfl, ho1, hg1⟩
      have G1 := hide (gb_trans HGB.out hg1)
      have K1 := hide (HKEYS.out.grown hg1 hbx hak)
      have O1 : Hid (w1.ownsRow base 3 1 (.slice (some ⟨g, 0, none⟩) n cap) n (cellsN (P ++ L1 ++ R1 ++ (L2 ++ R2 ++ Q)))) := by
       show w1.ownsRow base 3 1 (.slice (some ⟨g, 0, none⟩) n cap) n (cellsN (P ++ L1 ++ R1 ++ (L2 ++ R2 ++ Q)))
       simpa using ho1
      clear ho1 hg1 HGB HKEYS HOW
      go_wp2_with fail
      refine (HIH.out P L1 R1 (L2 ++ R2 ++ Q) _ _ _ _ ?_ ?_ ?_ ?_ ?_ ?_ O1.out K1.out HS1.out HS3.out HX13.out HI13.out).mono ?_
      · rw [HL1.out, HL3.out]; exact HN1.out
      · rw [HL1.out]; omega
      · rw [HL3.out]; omega
      · rw [← HA.out]
      · rw [HL1.out, ← HA.out]
      · rw [HL1.out, HL3.out, ← HA.out]; have := B2.out; omega
      rintro e w2 ⟨rfl, M1, hp1, hs1, ho2, hg2⟩
      have G2 := hide (gb_trans G1.out hg2)
      have K2 := hide (K1.out.grown hg2 hbx hak)
      have P1 := hide hp1
      have S1 := hide hs1
      have O2 : Hid (w2.ownsRow base 3 1 (.slice (some ⟨g, 0, none⟩) n cap) n (cellsN (P ++ M1 ++ L2 ++ R2 ++ Q))) := by
       show w2.ownsRow base 3 1 (.slice (some ⟨g, 0, none⟩) n cap) n (cellsN (P ++ M1 ++ L2 ++ R2 ++ Q))
       simpa using ho2
      clear hp1 hs1 ho2 hg2 G1 K1 O1
      have HM1 : Hid (M1.length = l + r1) := by rw [Hid, P1.out.length_eq, List.length_append, HL1.out, HL3.out]
      have hnil2 : R2 = [] := List.length_eq_zero_iff.1 (by rw [HL4.out]; omega)
      obtain ⟨M2, hM2⟩ : ∃ M2, M2 = L2 ++ R2 := ⟨_, rfl⟩
      have P2 : Hid (M2.Perm (L2 ++ R2)) := by rw [hM2]; exact List.Perm.refl _
      have S2 : Hid (M2.Pairwise (bef keys true)) := by
       show M2.Pairwise (bef keys true)
       rw [hM2, hnil2]; simpa using HS2.out
      have G3 := hide G2.out
      have O3 : Hid (w2.ownsRow base 3 1 (.slice (some ⟨g, 0, none⟩) n cap) n (cellsN (P ++ M1 ++ M2 ++ Q))) := by
       show w2.ownsRow base 3 1 (.slice (some ⟨g, 0, none⟩) n cap) n (cellsN (P ++ M1 ++ M2 ++ Q))
       rw [hM2]; simpa using O2.out
      clear hnil2 hM2 G2 K2 O2
      go_wp2
      first | go_end0 | refine bodyPost_ret (results_none rfl _ _ _) rfl ?_
      exact ⟨rfl, M1 ++ M2, HPERM'.out M1 M2 P1.out P2.out, sym_sorted HC'.out P1.out P2.out S1.out S2.out, by simpa using O3.out, G3.out⟩
    · have T1 : ((a : Int) + l < (m : Int)) := by have := B1.out; omega
      have T2 : ((m : Int) < (en : Int)) := by have := B1.out; have := B2.out; have := HEN.out; omega
      have T3 : ((a : Int) < (a : Int) + l) := by omega
      have T4 : ((a : Int) + l < (mid : Int)) := by have := B2.out; omega
      have T5 : ((mid : Int) < (en : Int)) := by have := HEN.out; omega
      have T6 : ((en : Int) < (b : Int)) := by have := HEN.out; have := B3.out; omega
      go_wp2_with fail
      refine (rotate_any base g n cap (P ++ L1) L2 R1 (R2 ++ Q) _ _ _ _ _ ?_ ?_ ?_ ?_ ?_ HOW.out hn).mono ?_
      · rw [List.length_append, HL1.out, ← HA.out]; omega
      · rw [List.length_append, HL1.out, HL2.out, ← HA.out]; have := B1.out; omega
      · rw [List.length_append, HL1.out, HL2.out, HL3.out, ← HA.out]; have := B1.out; have := B2.out; have := HEN.out; omega
      · rw [HL2.out]; omega
      · rw [HL3.out]; omega
      rintro e w1 ⟨rfl, ho1, hg1⟩
      have G1 := hide (gb_trans HGB.out hg1)
      have K1 := hide (HKEYS.out.grown hg1 hbx hak)
      have O1 : Hid (w1.ownsRow base 3 1 (.slice (some ⟨g, 0, none⟩) n cap) n (cellsN (P ++ L1 ++ R1 ++ (L2 ++ R2 ++ Q)))) := by
       show w1.ownsRow base 3 1 (.slice (some ⟨g, 0, none⟩) n cap) n (cellsN (P ++ L1 ++ R1 ++ (L2 ++ R2 ++ Q)))
       simpa using ho1
      clear ho1 hg1 HGB HKEYS HOW
      go_wp2_with fail
      refine (HIH.out P L1 R1 (L2 ++ R2 ++ Q) _ _ _ _ ?_ ?_ ?_ ?_ ?_ ?_ O1.out K1.out HS1.out HS3.out HX13.out HI13.out).mono ?_
      · rw [HL1.out, HL3.out]; exact HN1.out
      · rw [HL1.out]; omega
      · rw [HL3.out]; omega
      · rw [← HA.out]
      · rw [HL1.out, ← HA.out]
      · rw [HL1.out, HL3.out, ← HA.out]; have := B2.out; omega
      rintro e w2 ⟨rfl, M1, hp1, hs1, ho2, hg2⟩
      have G2 := hide (gb_trans G1.out hg2)
      have K2 := hide (K1.out.grown hg2 hbx hak)
      have P1 := hide hp1
      have S1 := hide hs1
      have O2 : Hid (w2.ownsRow base 3 1 (.slice (some ⟨g, 0, none⟩) n cap) n (cellsN (P ++ M1 ++ L2 ++ R2 ++ Q))) := by
       show w2.ownsRow base 3 1 (.slice (some ⟨g, 0, none⟩) n cap) n (cellsN (P ++ M1 ++ L2 ++ R2 ++ Q))
       simpa using ho2
      clear hp1 hs1 ho2 hg2 G1 K1 O1
      have HM1 : Hid (M1.length = l + r1) := by rw [Hid, P1.out.length_eq, List.length_append, HL1.out, HL3.out]
      go_wp2_with fail
      refine (HIH.out (P ++ M1) L2 R2 Q _ _ _ _ ?_ ?_ ?_ ?_ ?_ ?_ O2.out K2.out HS2.out HS4.out HX24.out HI24.out).mono ?_
      · rw [HL2.out, HL4.out]; exact HN2.out
      · rw [HL2.out]; omega
      · rw [HL4.out]; omega
      · rw [List.length_append, HM1.out, ← HA.out]; have := B2.out; omega
      · rw [List.length_append, HM1.out, HL2.out, ← HA.out]; have := B2.out; have := HEN.out; omega
      · rw [List.length_append, HM1.out, HL2.out, HL4.out, ← HA.out]; have := B2.out; have := B3.out; omega
      rintro e w3 ⟨rfl, M2, hp2, hs2, ho3, hg3⟩
      have P2 := hide hp2
      have S2 := hide hs2
      have G3 := hide (gb_trans G2.out hg3)
      have O3 := hide ho3
      clear hp2 hs2 ho3 hg3 G2 K2 O2
      go_wp2
      first | go_end0 | refine bodyPost_ret (results_none rfl _ _ _) rfl ?_
      exact ⟨rfl, M1 ++ M2, HPERM'.out M1 M2 P1.out P2.out, sym_sorted HC'.out P1.out P2.out S1.out S2.out, by simpa using O3.out, G3.out⟩
end Go.Proofs.Ytcblpoeeembniaa
