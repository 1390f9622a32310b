/- laws.FnNumbers: a number is read from its digits as it was; parts put together again are the text; what is sorted stays. -/
import Derived.Test.YtljpiamkihhieakDoorDrawNum
import Derived.Test.YtljpiamkihhieakDoorNumbersPlain
import Derived.Test.YtljpiamkihhieakDoorDigits
import Derived.Test.YtljpiamkihhieakDoorNumberLaw
import Derived.Test.YtljpiamkihhieakDoorSortImplUp
namespace Go.Proofs.YtljpiamkihhieakDoor
open Go.RowKit

/-- What an append of one number does to the round's relation. -/
theorem app_num {w wr w1 : World} {g cap n : Nat} {v' : Value} {ks : List Int} {x : Int} {t : TypeId}
    (hown : wr.ownsRow w.heap.size 3 1 (.slice (some ⟨g, 0, none⟩) n cap) n (ks.map (Value.int .i64))) (hbel : Below w.heap.size w wr)
    (h1 : w1.ownsRow w.heap.size 3 1 v' (n + 1) (ks.map (Value.int .i64) ++ [.int .i64 x])) (h2 : (wr.alloc (.cells #[.int .i64 x] t)).grownBy w1 (Value.slice (some ⟨g, 0, none⟩) n cap).ownBlock)
    (h3 : v' = .slice none 0 0 ↔ Value.slice (some ⟨g, 0, none⟩) n cap = .slice none 0 0 ∧ 1 = 0) :
    ∃ g' cap', v' = .slice (some ⟨g', 0, none⟩) (n + 1) cap' ∧ w1.ownsRow w.heap.size 3 1 (.slice (some ⟨g', 0, none⟩) (n + 1) cap') (n + 1) ((ks ++ [x]).map (Value.int .i64)) ∧ Below w.heap.size w w1 := by
  have hne : ¬ v' = .slice none 0 0 := fun h => by have := (h3.1 h).2; omega
  obtain ⟨g', cap', rfl⟩ := own_shape h1 hne
  refine ⟨g', cap', rfl, ?_, ?_⟩
  · simpa using h1
  · refine (hbel.alloc hbel.size (.cells #[.int .i64 x] t)).grown h2 (by have := hbel.size; simp; omega) ?_
    intro j hj
    have : g = j := by simpa [Value.ownBlock] using hj
    rw [← this]
    exact own_base hown

theorem itoa_size (x : Int) (h0 : -9223372036854775808 ≤ x) (h1 : x ≤ 9223372036854775807) : (⟨(Lib.itoa x).toArray⟩ : ByteArray).size ≤ 21 := by
  have hd : ∀ u : Nat, u < 10 ^ 20 → (Lib.decDigits u).length ≤ 20 := fun u hu => by
    by_cases h : u = 0
    · subst h
      rw [Lib.decDigits, dif_pos (by omega)]
      simp
    · have := pre_length 20 u hu
      unfold pre at this
      rw [if_neg h] at this
      exact this
  have e : (⟨(Lib.itoa x).toArray⟩ : ByteArray).size = (Lib.itoa x).length := by
    show (Lib.itoa x).toArray.size = _
    simp
  rw [e, Lib.itoa]
  split
  · have := hd x.natAbs (by omega)
    rw [List.length_cons]; omega
  · have := hd x.toNat (by omega)
    omega

set_option maxRecDepth 100000 in
set_option maxHeartbeats 6400000 in
theorem law_numbers (a : Option Addr) (n c : Nat) (zs : List Int) (w : World) (hr : RdB w a n zs) (hm : n ≤ maxLen) (hL : LibOk w) :
    Calls Tryd.prog 3 #[.slice a n c] w fun e w' => e = .returned (.bool true) ∧ Below w.heap.size w w' := by
  unfold maxLen at hm
  have HL := hide hL
  clear hL
  by_cases hn : n ≤ 1048576
  · have hgt : ¬ (1048576 : Int) < (n : Int) := by omega
    have HR := hide hr
    clear hr
    go_enter Tryd.func3, Tryd.ntmps3
    go_wp2_with (first | (go_at_call 4; go_in) | fail)
    refine (drawDigits_any a n c zs w HR.out hn).mono ?_
    rintro e w1 ⟨x, rfl, hx0, hx1, hb1⟩
    have B1 := hide hb1
    have L1 := hide (HL.out.later hb1)
    have R1 := hide (HR.out.mono hb1)
    clear hb1 HL HR
    have hsz := itoa_size x hx0 hx1
    have cIn := hide (numB_itoa_in x)
    have cHigh := hide (numB_itoa_high x)
    have cLow := hide (numB_itoa_low x)
    have ID := hide (fun w => implDigits_any x w hx0 hx1)
    have SD := hide (fun w => specDigits_any x w hx0 hx1)
    have IN := hide (implNumber_any ⟨(Lib.itoa x).toArray⟩)
    rw [List.toList_toArray] at IN
    generalize numB (Lib.itoa x) = ok at *
    generalize numN (Lib.itoa x) = mm at *
    generalize (⟨(Lib.itoa x).toArray⟩ : ByteArray) = s at *
    go_wp2_with fail
    refine (ID.out w1 L1.out.1).mono ?_
    rintro e w2 ⟨rfl, hb2⟩
    have B2 := hide (B1.out.trans (hb2.mono B1.out.size))
    have L2 := hide (L1.out.later hb2)
    have R2 := hide (R1.out.mono hb2)
    clear hb2 B1 L1 R1
    go_wp2_with fail
    refine (IN.out w2 (by omega) L2.out).mono ?_
    rintro e w3 ⟨rfl, hb3⟩
    have B3 := hide (B2.out.trans (hb3.mono B2.out.size))
    have R3 := hide (R2.out.mono hb3)
    clear hb3 B2 L2 R2
    go_wp2_with fail
    refine (SD.out w3).mono ?_
    rintro e w4 ⟨rfl, hb4⟩
    have B4 := hide (B3.out.trans (hb4.mono B3.out.size))
    have R4 := hide (R3.out.mono hb4)
    clear hb4 B3 R3 ID SD IN
    rcases (show (0 ≤ x ∧ x ≤ 999999) ∨ 999999 < x ∨ x < 0 by omega) with ⟨h0, h1⟩ | h1 | h1
    case' inl =>
      obtain ⟨rfl, rfl⟩ := cIn.out h0 h1
      clear cIn cHigh cLow
      have t3 : (mm != mm) = false := by simp
      go_wp2_with fail
      clear t3 h0 h1
    case' inr.inl =>
      obtain rfl := cHigh.out h1
      clear cIn cHigh cLow
      have t0 : 0 ≤ x := by omega
      have t1 : ¬ x ≤ 999999 := by omega
      go_wp2_with fail
      clear t0 t1 h1
    case' inr.inr =>
      obtain rfl := cLow.out h1
      clear cIn cHigh cLow
      have t0 : ¬ 0 ≤ x := by omega
      go_wp2_with fail
      clear t0 h1
    all_goals
      refine (drawParts_any a n c zs w4 R4.out hn).mono ?_
      rintro e w5 ⟨t, b, rfl, ht6, hb5⟩
      have B5 := hide (B4.out.trans (hb5.mono B4.out.size))
      have R5 := hide (R4.out.mono hb5)
      clear hb5 B4 R4
      have hpl := parts_len t b
      have IP := hide (implParts_any t b)
      have J0 := hide (joined_first b (partsOf t b))
      have JN := hide (joined_next b (partsOf t b))
      have JA := hide (joined_all t b)
      have JL := hide (joined_len t b)
      have JP := hide (part_len t b)
      have JZ := hide (show (⟨#[]⟩ : ByteArray).data.toList = joined b (partsOf t b) 0 from rfl)
      generalize partsOf t b = ps at *
      generalize ps.length = np at *
      go_wp2_with fail
      refine (IP.out w5 (by omega)).mono ?_
      rintro e w6 ⟨gp, cp, rfl, hop, hb6⟩
      have B6 := hide (B5.out.trans (hb6.mono B5.out.size))
      have R6 := hide (R5.out.mono hb6)
      have RP := hide (RdS.of_owns hop)
      clear hop hb6 B5 R5 IP
      go_wp2_with fail
      go_loopw [10, 11] (fun al iv wr => ∃ (k : Nat) (S : ByteArray), k ≤ np ∧ iv = .int .i64 (k : Int) ∧ al = .string S ∧ S.data.toList = joined b ps k ∧ Below w6.heap.size w6 wr) (fun _ iv _ => np - (intOf iv).toNat)
      case atStart => exact ⟨0, ⟨#[]⟩, Nat.zero_le _, rfl, rfl, JZ.out, Below.refl _ _⟩
      case round =>
        obtain ⟨k, S, hk, rfl, rfl, hS, hbr⟩ := hrel
        have hSs := JL.out S k hS
        have HS := hide hS
        have HBR := hide hbr
        have hszr := hbr.size
        clear hS hbr
        by_cases hlt : k < np
        · have tk : (k : Int) < (np : Int) := by omega
          have hps := JP.out k hlt
          obtain ⟨b', off', e, hcell⟩ := (RP.out.mono HBR.out).2 k hlt
          cases e
          rw [Nat.zero_add] at hcell
          cases k with
          | zero =>
            have HJ := hide (J0.out S hlt HS.out)
            generalize ps.getD 0 ByteArray.empty = p at *
            go_wp2
            go_roundw
            case rel => exact ⟨0 + 1, _, by omega, by go_num, rfl, HJ.out, HBR.out⟩
            case measure => simp [intOf]; omega
          | succ q =>
            have HJ := hide (JN.out S q hlt HS.out)
            generalize ps.getD (q + 1) ByteArray.empty = p at *
            have hcv := conv_one wr b.toNat (by have := b.toNat_lt; omega)
            rw [UInt8.ofNat_toNat] at hcv
            have hb1 : (⟨#[b]⟩ : ByteArray).size = 1 := rfl
            have tq : (0 : Int) < ((q + 1 : Nat) : Int) := by omega
            have hcell2 : (wr.alloc (.cells #[.int .u8 (b.toNat : Int)] 5)).cell? ⟨gp, q + 1, none⟩ = some (.string p) := (((Below.refl wr.heap.size wr).alloc (Nat.le_refl _) _).cell (World.block_lt_of_cell? wr _ hcell)).trans hcell
            go_wp2
            go_roundw
            case rel => exact ⟨q + 1 + 1, _, by omega, by go_num, rfl, HJ.out, HBR.out.alloc hszr _⟩
            case measure => simp [intOf]; omega
        · have tk : ¬ (k : Int) < (np : Int) := by omega
          obtain rfl : k = np := by omega
          obtain rfl := JA.out S _ rfl HS.out
          have B7 := hide (B6.out.trans (HBR.out.mono B6.out.size))
          have R7 := hide (R6.out.mono HBR.out)
          clear HBR HS J0 JN JA JL JP JZ RP hpl B6 R6 hSs ht6 tk hlt hk
          go_wp2_with fail
          refine (drawKeys_any a n c zs wr R7.out hn).mono ?_
          rintro e w8 ⟨g, cap, ks, rfl, hl9, ho8, hb8⟩
          have K8 := hide (Rd.of_owns ho8)
          have B8 := hide (B7.out.trans (hb8.mono B7.out.size))
          have hglt := (ho8.lt g rfl).2
          clear ho8 hb8 B7 R7
          have hlu : (sortP ks false (List.range ks.length)).length = ks.length := by rw [(sortP_perm ks false _).length_eq, List.length_range]
          have hmu : ∀ p ∈ sortP ks false (List.range ks.length), p < ks.length := fun p hp => List.mem_range.1 ((sortP_perm ks false _).mem_iff.1 hp)
          have AR := hide (again_range ks ks.length)
          have SU := hide (inRow_sum ks ks.length rfl)
          have IU := hide (implSortUp_any (some ⟨g, 0, none⟩) ks.length cap ks)
          generalize sortP ks false (List.range ks.length) = F at *
          generalize ks.length = m at *
          have HLU := hide hlu
          have HMU := hide hmu
          clear hlu hmu
          go_wp2_with fail
          refine (IU.out w8 K8.out ?_ (by omega)).mono ?_
          · intro x hx; cases hx; exact hglt
          rintro e w9 ⟨rfl, ho9, hb9⟩
          have U9 := hide (Rd.of_cells ho9)
          have K9 := hide (K8.out.mono hb9)
          have B9 := hide (B8.out.trans (hb9.mono B8.out.size))
          have hglt9 : g < w9.heap.size := Nat.lt_of_lt_of_le hglt hb9.size
          generalize w8.heap.size + 1 = gU at *
          clear ho9 hb9 K8 B8 IU hglt
          have hne : ((m : Int) != (m : Int)) = false := by simp
          have hown0 : (w9.alloc (.cells #[] 3)).ownsRow w9.heap.size 3 1 (.slice (some ⟨w9.heap.size, 0, none⟩) 0 0) 0 ((inRow ks (F.take 0)).map (Value.int .i64)) := World.ownsRow_lit w9 #[] 0 (Nat.le_refl _) (Nat.zero_le _) rfl
          have HO0 := hide hown0
          clear hown0
          obtain ⟨i0, hi, hz0, hz1, hz2⟩ := info_parts Tryd.infoInt
          go_wp2_with fail
          go_loopw [14, 15] (fun o iv wr => ∃ j g' cap' : Nat, j ≤ m ∧ iv = .int .i64 (j : Int) ∧ o = .slice (some ⟨g', 0, none⟩) j cap' ∧ wr.ownsRow w9.heap.size 3 1 (.slice (some ⟨g', 0, none⟩) j cap') j ((inRow ks (F.take j)).map (Value.int .i64)) ∧ Below w9.heap.size w9 wr) (fun _ iv _ => m - (intOf iv).toNat)
          case atStart => exact ⟨0, w9.heap.size, 0, Nat.zero_le _, rfl, rfl, HO0.out, (Below.refl _ _).alloc (Nat.le_refl _) _⟩
          case round =>
            clear HO0
            obtain ⟨j, g', cap', hj, rfl, rfl, how, hbr⟩ := hrel
            have HW := hide how
            have HBR := hide hbr
            have hszr := hbr.size
            clear how hbr
            by_cases hlt : j < m
            · have tk : (j : Int) < (m : Int) := by omega
              have hjF : j < F.length := by rw [HLU.out]; exact hlt
              have cu := (U9.out.mono HBR.out).cell j hlt hjF
              have hFm := HMU.out _ (List.getElem_mem hjF)
              obtain ⟨b', off', e, ck⟩ := (K9.out.mono HBR.out).2 F[j] hFm
              cases e
              rw [Nat.zero_add] at cu ck
              have IT := hide (inRow_take ks F j hjF)
              generalize ks.getD F[j] 0 = y at *
              generalize F[j] = fj at *
              generalize inRow ks (F.take j) = rs at *
              go_wp2_with (first
                | (at_builtin; refine wpList_append_own _ rfl _ _ 32 rfl w9.heap.size 3 i0 (.int .i64 0) 1 8 Tryd.underlying32 hi hz0 hz1 hz2 rfl (by decide) (.slice (some ⟨g', 0, none⟩) j cap') j (rs.map (Value.int .i64)) rfl (HW.out.alloc _) ⟨wr.heap.size, 0, none⟩ 1 1 [.int .i64 y] rfl rfl (cell_one_new _ _ _) (by simp [Value.oneCell']) (by unfold maxLen; omega) (by omega) (by simp; omega) ?_; intro v' w3 h1 h2 h3)
                | go_in)
              obtain ⟨g2, cap2, hv, ho, hgn⟩ := app_num HW.out HBR.out h1 h2 h3
              clear h1 h2 h3
              go_roundw
              case rel => exact ⟨j + 1, g2, cap2, by omega, by go_num, hv, by rw [IT.out]; exact ho, hgn⟩
              case measure => simp [intOf]; omega
            · have tk : ¬ (j : Int) < (m : Int) := by omega
              obtain rfl : j = m := by omega
              have eF : F.take j = F := List.take_of_length_le (by rw [HLU.out]; exact Nat.le_refl _)
              have how := HW.out
              rw [eF] at how
              clear HW eF HLU HMU hlt tk hj U9
              have SW := hide (Rd.of_owns how)
              have hgw := (how.lt g' rfl).2
              clear how
              have KW := hide (K9.out.mono HBR.out)
              have BW := hide (B9.out.trans (HBR.out.mono B9.out.size))
              clear K9 B9 HBR
              generalize inRow ks F = R at *
              go_wp2_with fail
              refine (implSortUp_any (some ⟨g', 0, none⟩) j cap' R _ SW.out ?_ (by omega)).mono ?_
              · intro x hx; cases hx; exact hgw
              rintro e wa ⟨rfl, hoa, hba⟩
              rw [AR.out] at hoa
              have UA := hide (Rd.of_cells hoa)
              have KA := hide (KW.out.mono hba)
              have SA := hide (SW.out.mono hba)
              have BA := hide (BW.out.trans (hba.mono BW.out.size))
              clear hoa hba KW SW BW AR
              generalize wr.heap.size + 1 = gA at *
              go_wp2_with fail
              go_loop [17] (fun iv => ∃ q : Nat, q ≤ j ∧ iv = .int .i64 (q : Int)) (fun iv => j - (intOf iv).toNat)
              case atStart => exact ⟨0, Nat.zero_le _, rfl⟩
              case round =>
                obtain ⟨q, hq, rfl⟩ := hrel
                by_cases hlt : q < j
                · have tq : (q : Int) < (j : Int) := by omega
                  have cq := UA.out.cell q hlt (by rw [List.length_range]; exact hlt)
                  rw [List.getElem_range, Nat.zero_add] at cq
                  have hqq : ((q : Int) != (q : Int)) = false := by simp
                  go_wp2
                  go_round
                  case rel => exact ⟨q + 1, by omega, by go_num⟩
                  case measure => simp [intOf]; omega
                · have tq : ¬ (q : Int) < (j : Int) := by omega
                  have hSS : (S.toList == S.toList) = true := by simp
                  have hjj : ((j : Int) == (j : Int)) = true := by simp
                  go_wp2_with fail
                  refine (implSum_any _ j cap' R wa SA.out (by omega)).mono ?_
                  rintro e wb ⟨rfl, rfl⟩
                  rw [SU.out]
                  generalize hsum : sumUp ks = su at *
                  have HSUM := hide hsum
                  clear hsum SU
                  go_wp2_with fail
                  refine (implSum_any _ j cap ks _ KA.out (by omega)).mono ?_
                  rintro e wb ⟨rfl, rfl⟩
                  rw [HSUM.out]
                  have huu : (su == su) = true := by simp
                  go_wp2
                  go_ret
                  exact ⟨rfl, BA.out⟩
  · have hgt : (1048576 : Int) < (n : Int) := by omega
    go_enter Tryd.func3, Tryd.ntmps3
    go_wp2
    go_ret
    exact ⟨rfl, Below.refl _ _⟩
end Go.Proofs.YtljpiamkihhieakDoor
