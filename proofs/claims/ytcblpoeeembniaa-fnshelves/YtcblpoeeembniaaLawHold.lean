/- laws.FnShelves: what lies on the shelves. -/
import Derived.Test.YtcblpoeeembniaaHoldKit
import Derived.Test.YtcblpoeeembniaaSpecShelves
import Derived.Test.YtcblpoeeembniaaDrawBoxes
import Derived.Test.YtcblpoeeembniaaBoxes
import Derived.Deep.DeepMust
import Derived.Deep.DeepCutAuto
import Derived.Deep.RegionHeld3
namespace Go.Proofs.Ytcblpoeeembniaa
open Go Go.RowKit
set_option linter.unusedVariables false
set_option linter.unusedSimpArgs false
theorem rdBltH {w : World} {a : Option Addr} {n : Nat} {zs : List Int} (h : RdB w a n zs) (h0 : 0 < n) (x : Addr) (hx : a = some x) : x.block < w.heap.size := by
 obtain ⟨b, off, ha, hc, _⟩ := h.2 0 h0
 rw [hx] at ha
 cases ha
 exact World.block_lt_of_cell? w _ hc
set_option maxRecDepth 100000 in
set_option maxHeartbeats 8000000 in
theorem law_hold (a : Option Addr) (n c : Nat) (zs : List Int) (w : World) (hr : RdB w a n zs) (hm : n ≤ maxLen) :
 Calls Try.prog 7 #[.slice a n c] w fun e w' => e = .returned (.bool true) ∧ Below w.heap.size w w' := by
 unfold maxLen at hm
 obtain ⟨i0, hi, hz0, hz1, hz2⟩ := info_parts Try.infoInt
 by_cases hn : n ≤ 1048576
 case neg =>
  have hgt : (1048576 : Int) < (n : Int) := by omega
  go_enter Try.func7, Try.ntmps7
  go_wp2_with (first | (go_at_call 27; go_in) | fail)
  go_ret
  exact ⟨rfl, Below.refl _ _⟩
 have hgt : ¬ (1048576 : Int) < (n : Int) := by omega
 have HR := hide hr
 clear hr
 go_enter Try.func7, Try.ntmps7
 go_wp2_with (first | (go_at_call 27; go_in) | fail)
 refine (drawShelves_any a n c zs w HR.out hn (rdBltH HR.out)).mono ?_
 rintro e w1 ⟨p, g, cap, bs, rfl, hb12, hbx, hb1, hgl⟩
 clear HR
 have Hw1 : Hid (Below w.heap.size w w1) := hb1
 have Qyw1 : Hid (RdR BoxV.cells 4 w1 (some ⟨g, 0, none⟩) bs.length bs) := hbx
 clear hb1 hbx
 obtain ⟨N, hN⟩ : ∃ N, N = (shelvesR p bs).length := ⟨_, rfl⟩
 have hNb : N ≤ 12 := by have h1 := (shelves_size p bs (orderB bs) []).2; rw [orderB_len] at h1; rw [hN, shelvesR]; split; (have h2 : (shelvesTo p bs (orderB bs)).length ≤ bs.length := by simpa [shelvesTo] using h1); (omega); (simp)
 have HN := hide hN
 clear hN
 go_wp2_with fail
 generalize hW : (w1.alloc (.cells #[.int .i64 p.wd, .int .i64 p.dp, .int .i64 p.ht, .int .i64 p.gram] 27)) = w2 at *
 obtain ⟨hb, Kxw2, zxw2⟩ := en1 hW
 have hb := unhide hb
 have Hw2 : Hid (Below w.heap.size w w2) := Hw1.out.trans (hb.mono Hw1.out.size)
 have Qyw2 : Hid (RdR BoxV.cells 4 w2 (some ⟨g, 0, none⟩) bs.length bs) := RdR.mono (by omega) BoxV.len Qyw1.out hb
 clear Hw1 Qyw1
 clear hb hW
 refine (shelves_any p _ bs.length cap bs _ Qyw2.out (by omega)).mono ?_
 rintro e w3 ⟨g7, cap7, xs, rfl, ho7, hm7, hbw3⟩
 have hl7 : xs.length = N := by rw [unhide HN, ← hm7, List.length_map]
 rw [hl7]
 have HM := hide hm7
 have HL := hide hl7
 clear hm7 hl7
 have Hw3 : Hid (Below w.heap.size w w3) := Hw2.out.trans (hbw3.mono Hw2.out.size)
 have Kxw3 := hide (Blk.below hbw3 zxw2 Kxw2.out)
 have zxw3 : w1.heap.size < w3.heap.size := Nat.lt_of_lt_of_le zxw2 hbw3.size
 have Qyw3 : Hid (RdR BoxV.cells 4 w3 (some ⟨g, 0, none⟩) bs.length bs) := RdR.mono (by omega) BoxV.len Qyw2.out hbw3
 clear Hw2 Kxw2 zxw2 Qyw2
 clear hbw3
 have Quw3 : Hid (OwnShelf w3 w2.heap.size g7 cap7 xs) := ho7
 clear ho7
 have hne : ((N : Int) != (N : Int)) = false := by simp
 obtain ⟨xw3_0, xw3_1, xw3_2, xw3_3⟩ := Blk.cs4 Kxw3.out
 go_wp2_with fail
 refine (specShelves_any p _ bs.length cap bs _ Qyw3.out (by omega)).mono ?_
 rintro e w4 ⟨gA, cA, xA, rfl, hoA, hmA, hbw4⟩
 clear xw3_0 xw3_1 xw3_2 xw3_3
 have hlA : xA.length = N := by rw [unhide HN, ← hmA, List.length_map]
 rw [hlA]
 clear hoA hmA hlA
 have Hw4 : Hid (Below w.heap.size w w4) := Hw3.out.trans (hbw4.mono Hw3.out.size)
 have Kxw4 := hide (Blk.below hbw4 zxw3 Kxw3.out)
 have zxw4 : w1.heap.size < w4.heap.size := Nat.lt_of_lt_of_le zxw3 hbw4.size
 have Qyw4 : Hid (RdR BoxV.cells 4 w4 (some ⟨g, 0, none⟩) bs.length bs) := RdR.mono (by omega) BoxV.len Qyw3.out hbw4
 have Quw4 : Hid (OwnShelf w4 w2.heap.size g7 cap7 xs) := OwnShelf.later Quw3.out hbw4
 clear Hw3 Kxw3 zxw3 Qyw3 Quw3
 clear hbw4
 obtain ⟨xw4_0, xw4_1, xw4_2, xw4_3⟩ := Blk.cs4 Kxw4.out
 go_wp2_with fail
 refine (specBoxesOk_any p _ bs.length cap bs _ Qyw4.out (by omega)).mono ?_
 rintro e w5 ⟨rfl, hbw5⟩
 clear xw4_0 xw4_1 xw4_2 xw4_3
 have Hw5 : Hid (Below w.heap.size w w5) := Hw4.out.trans (hbw5.mono Hw4.out.size)
 have Kxw5 := hide (Blk.below hbw5 zxw4 Kxw4.out)
 have zxw5 : w1.heap.size < w5.heap.size := Nat.lt_of_lt_of_le zxw4 hbw5.size
 have Qyw5 : Hid (RdR BoxV.cells 4 w5 (some ⟨g, 0, none⟩) bs.length bs) := RdR.mono (by omega) BoxV.len Qyw4.out hbw5
 have Quw5 : Hid (OwnShelf w5 w2.heap.size g7 cap7 xs) := OwnShelf.later Quw4.out hbw5
 clear Hw4 Kxw4 zxw4 Qyw4 Quw4
 clear hbw5
 cases hbb : boxesB p bs
 case false =>
  have hN0 : N = 0 := by rw [unhide HN, shelvesR, if_neg (by rw [hbb]; simp)]; rfl
  clear HN
  subst hN0
  go_wp2_with fail
  go_ret
  exact ⟨rfl, unhide Hw5⟩
 case true =>
  have O1 : Hid ((w5.alloc (.cells #[] 3)).ownsRow w5.heap.size 3 1 (.slice (some ⟨w5.heap.size, 0, none⟩) 0 0) 0 []) := World.ownsRow_lit (e := 3) w5 #[] 0 (Nat.le_refl _) (Nat.zero_le _) rfl
  have HFL : Hid (∀ j, (flatTo (shelvesR p bs) j).length ≤ 12) := fun j => by have h := flatTo_len (shelvesR p bs) j; rw [flat_len hbb] at h; omega
  go_wp2
  go_loopw [6, 7] (fun f i wo => ∃ j t g8 cap8 : Nat, j ≤ N ∧ i = .int .i64 j ∧ t = (flatTo (shelvesR p bs) j).length ∧ f = .slice (some ⟨g8, 0, none⟩) t cap8 ∧ wo.ownsRow w5.heap.size 3 1 (.slice (some ⟨g8, 0, none⟩) t cap8) t (cih (flatTo (shelvesR p bs) j)) ∧ Below w5.heap.size w5 wo) (fun _ i _ => N - (intOf i).toNat)
  case atStart => exact ⟨0, 0, w5.heap.size, 0, Nat.zero_le _, rfl, rfl, rfl, unhide O1, (Below.refl _ _).alloc (Nat.le_refl _) _⟩
  case round =>
   rename World => wo
   clear O1
   obtain ⟨i, t, g8, cap8, hi1, rfl, ht, rfl, ho8, hbl⟩ := hrel
   have HT := hide ht
   have HO8 := hide ho8
   have hg8b := own_base ho8
   have ht12 : t ≤ 12 := by rw [ht]; exact HFL.out i
   clear ht ho8
   by_cases hlt : i < N
   case neg =>
    have HF : Hid (Rd wo (some ⟨g8, 0, none⟩) t (flatTo (shelvesR p bs) i)) := Rd.of_owns HO8.out
    obtain rfl : i = N := by omega
    have hfe : flatTo (shelvesR p bs) i = (shelvesR p bs).flatMap (fun s => s.us) := by rw [unhide HN]; exact flatTo_all _
    rw [hfe] at HF
    have htl : t = bs.length := by rw [unhide HT, hfe]; exact flat_len hbb
    have HC : Hid (∀ j : Nat, j < bs.length → ((shelvesR p bs).flatMap (fun s => s.us)).count (j : Int) = 1) := fun j hj => flat_once hbb j hj
    generalize (shelvesR p bs).flatMap (fun s => s.us) = L at HF HC hfe
    clear hfe HO8 HT HFL HN
    rw [htl] at HF ⊢
    have Hwo : Hid (Below w.heap.size w wo) := Hw5.out.trans (hbl.mono Hw5.out.size)
    have Kxwo := hide (Blk.below hbl zxw5 Kxw5.out)
    have zxwo : w1.heap.size < wo.heap.size := Nat.lt_of_lt_of_le zxw5 hbl.size
    have Qywo : Hid (RdR BoxV.cells 4 wo (some ⟨g, 0, none⟩) bs.length bs) := RdR.mono (by omega) BoxV.len Qyw5.out hbl
    have Quwo : Hid (OwnShelf wo w2.heap.size g7 cap7 xs) := OwnShelf.later Quw5.out hbl
    clear Hw5 Kxw5 zxw5 Qyw5 Quw5
    clear hbl
    have hq1 : ((1 : Int) != 1) = false := rfl
    go_wp2
    go_loopw [12] (fun j wq => ∃ j1 : Nat, j1 ≤ bs.length ∧ j = .int .i64 j1 ∧ Below wo.heap.size wo wq) (fun j _ => bs.length - (intOf j).toNat)
    case atStart => exact ⟨0, Nat.zero_le _, rfl, Below.refl _ _⟩
    case round =>
     rename World => wq
     obtain ⟨j, hj, rfl, hbq⟩ := hrel
     have HBQ := hide hbq
     clear hbq
     by_cases hlj : j < bs.length
     · have hljI : (j : Int) < (bs.length : Int) := by omega
       go_wp2_with fail
       refine (timesC_any _ bs.length cap8 L (j : Int) wq (HF.out.mono HBQ.out) (by omega)).mono ?_
       rintro e v9 ⟨rfl, rfl⟩
       rw [HC.out j hlj]
       go_wp2
       go_roundw
       case rel => exact ⟨j + 1, by omega, by go_num, unhide HBQ⟩
       case measure => simp [intOf]; omega
     · have hljI : ¬ (j : Int) < (bs.length : Int) := by omega
       go_wp2_with fail
       go_ret
       exact ⟨by simp, Hwo.out.trans (HBQ.out.mono Hwo.out.size)⟩
   case pos =>
    have hbl0 := hide hbl
    have Hwo : Hid (Below w.heap.size w wo) := Hw5.out.trans (hbl.mono Hw5.out.size)
    have Kxwo := hide (Blk.below hbl zxw5 Kxw5.out)
    have zxwo : w1.heap.size < wo.heap.size := Nat.lt_of_lt_of_le zxw5 hbl.size
    have Qywo : Hid (RdR BoxV.cells 4 wo (some ⟨g, 0, none⟩) bs.length bs) := RdR.mono (by omega) BoxV.len Qyw5.out hbl
    have Quwo : Hid (OwnShelf wo w2.heap.size g7 cap7 xs) := OwnShelf.later Quw5.out hbl
    clear Hw5 Kxw5 zxw5 Qyw5 Quw5
    have hxi : i < xs.length := by rw [unhide HL]; exact hlt
    have HHF := hide (holdF_at hbb i (by rw [← unhide HN]; exact hlt))
    have hsi : (flatTo (shelvesR p bs) (i + 1)) = flatTo (shelvesR p bs) i ++ ((shelvesR p bs).getD i default).us := flatTo_step _ _ (by rw [← unhide HN]; exact hlt)
    have hdeep : 0 < i → ((shelvesR p bs).getD i default).dp ≤ ((shelvesR p bs).getD (i - 1) default).dp := fun h0 => deep_at p bs i h0 (by rw [← unhide HN]; exact hlt)
    have hul : ((shelvesR p bs).getD i default).us.length ≤ 12 := by have h := HFL.out (i + 1); rw [hsi, List.length_append] at h; omega
    have h0 := (Quwo.out.cell i hxi 0 (by omega)).1
    have h1 := (Quwo.out.cell i hxi 1 (by omega)).1
    have h2 := (Quwo.out.cell i hxi 2 (by omega)).1
    have h3 := (Quwo.out.cell i hxi 3 (by omega)).1
    have h4 := (Quwo.out.cell i hxi 4 (by omega)).1
    have hrow := own_reads (Quwo.out.rowAt i hxi)
    have hpv : 0 < i → wo.cell? ⟨g7, (i - 1) * 5 + 2, none⟩ = some (.int .i64 ((shelvesR p bs).getD (i - 1) default).dp) := fun h0 => by
     have hc := (Quwo.out.cell (i - 1) (by omega) 2 (by omega)).1
     have e1 := ShelfW.getD_car xs (i - 1) (by omega)
     rw [unhide HM] at e1
     rw [e1]
     exact hc
    have e0 := ShelfW.getD_car xs i hxi
    rw [unhide HM] at e0
    rw [e0] at HHF hsi hdeep hul
    generalize xs.getD i default = ra at h0 h1 h2 h3 h4 hrow HHF hsi hdeep hul e0
    obtain ⟨rg, rc, us, rw0, rd, rh, rm⟩ := ra
    simp only [ShelfW.car, ShelfW.row] at HHF hsi hdeep hul hrow
    generalize ((shelvesR p bs).getD (i - 1) default).dp = pd at hpv hdeep
    have d0 : Hid (wo.cell? ⟨g7, i * 5, none⟩ = some (.slice (some ⟨rg, 0, none⟩) us.length rc)) := h0
    have d1 : Hid (wo.cell? ⟨g7, i * 5 + 1, none⟩ = some (.int .i64 rw0)) := h1
    have d2 : Hid (wo.cell? ⟨g7, i * 5 + 2, none⟩ = some (.int .i64 rd)) := h2
    have d3 : Hid (wo.cell? ⟨g7, i * 5 + 3, none⟩ = some (.int .i64 rh)) := h3
    have d4 : Hid (wo.cell? ⟨g7, i * 5 + 4, none⟩ = some (.int .i64 rm)) := h4
    have HRW := hide hrow
    have HSI := hide hsi
    have HDP := hide hdeep
    have HPV := hide hpv
    have hg7l : g7 < wo.heap.size := (Quwo.out.out.lt g7 rfl).2
    have hpal := pal_in (boxesB_pal hbb)
    have hlI : ((i : Int) < (N : Int)) := by omega
    have hiN : (0 : Int) ≤ (i : Int) := by omega
    clear h0 h1 h2 h3 h4 hrow hsi hdeep hpv e0 hbl
    have hiE : i * 5 + 5 ≤ 60 := by omega
    go_wp2_with fail
    go_loopw [8, 9, 10] (fun wv gv kv wq => ∃ k : Nat, k ≤ us.length ∧ kv = .int .i64 k ∧ wv = .int .i64 (psum BoxV.wd bs us k) ∧ gv = .int .i64 (psum BoxV.gram bs us k) ∧ Below wo.heap.size wo wq) (fun _ _ kv _ => us.length - (intOf kv).toNat)
    case atStart => exact ⟨0, Nat.zero_le _, rfl, rfl, rfl, Below.refl _ _⟩
    case round =>
     rename World => wq
     obtain ⟨k, hk, rfl, rfl, rfl, hbq⟩ := hrel
     have HBQ := hide hbq
     have hg7q : g7 < wq.heap.size := by have := hbq.size; omega
     by_cases hlk : k < us.length
     case pos =>
      have d0q : wq.cell? ⟨g7, i * 5, none⟩ = _ := (hbq.cell (p := ⟨g7, i * 5, none⟩) hg7l).trans d0.out
      have d2q : wq.cell? ⟨g7, i * 5 + 2, none⟩ = _ := (hbq.cell (p := ⟨g7, i * 5 + 2, none⟩) hg7l).trans d2.out
      have d3q : wq.cell? ⟨g7, i * 5 + 3, none⟩ = _ := (hbq.cell (p := ⟨g7, i * 5 + 3, none⟩) hg7l).trans d3.out
      obtain ⟨jb, hjk, hjb, hle1, hle2, hpw, hpg⟩ := HHF.out.at' k hlk
      have hb1 := HHF.out.wb k
      have hb2 := HHF.out.gb k
      have hb3 := HHF.out.wb (k + 1)
      have hb4 := HHF.out.gb (k + 1)
      have hb5 := HHF.out.w1
      have hb6 := HHF.out.g1
      simp only at hjk hle1 hle2 hpw hpg hb1 hb2 hb3 hb4 hb5 hb6 hlk
      have f0 : wq.cell? ⟨rg, k, none⟩ = some (.int .i64 (jb : Int)) := by obtain ⟨bb, off, e, hc⟩ := (HRW.out.mono hbq).2 k hlk; cases e; rw [Nat.zero_add, hjk] at hc; exact hc
      obtain ⟨bb, off, eg, hcb⟩ := (RdR.mono (by omega) BoxV.len Qywo.out hbq).2 jb hjb
      cases eg
      have q0 := hcb 0 (by omega)
      have q1 := hcb 1 (by omega)
      have q2 := hcb 2 (by omega)
      have q3 := hcb 3 (by omega)
      clear hcb
      rw [hpw] at hb3
      rw [hpg] at hb4
      have HPW := hide hpw
      have HPG := hide hpg
      clear hpw hpg
      generalize bs.getD jb default = q at q0 q1 q2 q3 hle1 hle2 hb3 hb4 HPW HPG
      have q0 : wq.cell? ⟨g, jb * 4, none⟩ = some (.int .i64 q.wd) := by rw [Nat.zero_add] at q0; exact q0
      have q1 : wq.cell? ⟨g, jb * 4 + 1, none⟩ = some (.int .i64 q.dp) := by rw [Nat.zero_add] at q1; exact q1
      have q2 : wq.cell? ⟨g, jb * 4 + 2, none⟩ = some (.int .i64 q.ht) := by rw [Nat.zero_add] at q2; exact q2
      have q3 : wq.cell? ⟨g, jb * 4 + 3, none⟩ = some (.int .i64 q.gram) := by rw [Nat.zero_add] at q3; exact q3
      generalize psum BoxV.wd bs us k = sw at hb1 hb3 HPW ⊢
      generalize psum BoxV.gram bs us k = sg at hb2 hb4 HPG ⊢
      have hkI : (k : Int) < (us.length : Int) := by omega
      have hjI : (jb : Int) < (bs.length : Int) := by omega
      have hj0 : ¬ (jb : Int) < 0 := by omega
      have hjn : ¬ (bs.length : Int) ≤ (jb : Int) := by omega
      have hdn : ¬ rd < q.dp := by omega
      have hhn : ¬ rh < q.ht := by omega
      have hgq : g < wq.heap.size := World.block_lt_of_cell? wq ⟨g, jb * 4, none⟩ q0
      clear hjk
      go_upto_region 19 with fail
      have D2 := hide d2q
      have D3 := hide d3q
      have F1 := hide q1
      have F2 := hide q2
      have F0 := hide q0
      have F3 := hide q3
      have Bwq : Hid (Below wq.heap.size wq wq) := Below.refl _ _
      clear d0q d2q d3q q0 q1 q2 q3 f0
      go_cut [95] (fun v wc => v = .bool false ∧ Below wq.heap.size wq wc)
      case first =>
       refine wp_region_noPanic ?_
       have Bu0 : Hid (Below wq.heap.size wq wq.drew) := Bwq.out.drew
       obtain ⟨S, hSdef⟩ : ∃ S : World → Prop, S = (fun w' => w'.cell? ⟨g7, i * 5 + 2, none⟩ = some (.int .i64 rd) ∧ w'.cell? ⟨g7, i * 5 + 3, none⟩ = some (.int .i64 rh) ∧ w'.cell? ⟨g, jb * 4 + 1, none⟩ = some (.int .i64 q.dp) ∧ w'.cell? ⟨g, jb * 4 + 2, none⟩ = some (.int .i64 q.ht)) := ⟨_, rfl⟩
       have hSmk : ∀ wq, (wq.cell? ⟨g7, i * 5 + 2, none⟩ = some (.int .i64 rd)) → (wq.cell? ⟨g7, i * 5 + 3, none⟩ = some (.int .i64 rh)) → (wq.cell? ⟨g, jb * 4 + 1, none⟩ = some (.int .i64 q.dp)) → (wq.cell? ⟨g, jb * 4 + 2, none⟩ = some (.int .i64 q.ht)) → S wq := fun wq p0 p1 p2 p3 => by rw [hSdef]; exact ⟨p0, p1, p2, p3⟩
       have hSd : ∀ wq, S wq → (fun w' => w'.cell? ⟨g7, i * 5 + 2, none⟩ = some (.int .i64 rd) ∧ w'.cell? ⟨g7, i * 5 + 3, none⟩ = some (.int .i64 rh) ∧ w'.cell? ⟨g, jb * 4 + 1, none⟩ = some (.int .i64 q.dp) ∧ w'.cell? ⟨g, jb * 4 + 2, none⟩ = some (.int .i64 q.ht)) wq := fun wq h => by rw [hSdef] at h; exact h
       clear hSdef
       have hHeld : S wq.drew := hSmk wq.drew ((Bu0.out.cell (p := ⟨g7, i * 5 + 2, none⟩) hg7q).trans D2.out) ((Bu0.out.cell (p := ⟨g7, i * 5 + 3, none⟩) hg7q).trans D3.out) ((Bu0.out.cell (p := ⟨g, jb * 4 + 1, none⟩) hgq).trans F1.out) ((Bu0.out.cell (p := ⟨g, jb * 4 + 2, none⟩) hgq).trans F2.out)
       refine wp_region_to (S := S) (T := []) (by kernel_rfl) hHeld (fun _ => ?_)
       generalize wq.drew = u0 at *
       refine wpTo_ts (i := 0) (v := ?_) rfl (by kernel_rfl) hSd (by rfl) (fun w hSw => ?_) (by assumption) ?_
       rotate_left
       · ((try dsimp only [RqC] at hSw); go_simp <;> with_reducible rfl)
       refine wpTo_ts (i := 1) (v := ?_) rfl (by kernel_rfl) hSd (by rfl) (fun w hSw => ?_) (by assumption) ?_
       rotate_left
       · ((try dsimp only [RqC] at hSw); go_simp <;> with_reducible rfl)
       try simp only [Act.put, zz1, zz2, zz3, zz4, zz5, zz6]
       try rw [show decide ((jb : Int) < 0) = false from decide_eq_false hj0]
       refine wpTo_ts (i := 2) (v := ?_) rfl (by kernel_rfl) hSd (by rfl) (fun w hSw => ?_) (by assumption) ?_
       rotate_left
       · ((try dsimp only [RqC] at hSw); go_simp <;> with_reducible rfl)
       refine wpTo_ts (i := 3) (v := ?_) rfl (by kernel_rfl) hSd (by rfl) (fun w hSw => ?_) (by assumption) ?_
       rotate_left
       · ((try dsimp only [RqC] at hSw); go_simp <;> with_reducible rfl)
       try simp only [Act.put, zz1, zz2, zz3, zz4, zz5, zz6]
       refine wpTo_ts (i := 4) (v := ?_) rfl (by kernel_rfl) hSd (by rfl) (fun w hSw => ?_) (by assumption) ?_
       rotate_left
       · ((try dsimp only [RqC] at hSw); go_simp <;> with_reducible rfl)
       refine wpTo_ts (i := 5) (v := ?_) rfl (by kernel_rfl) hSd (by rfl) (fun w hSw => ?_) (by assumption) ?_
       rotate_left
       · ((try dsimp only [RqC] at hSw); go_simp <;> with_reducible rfl)
       refine wpTo_ts (i := 6) (v := ?_) rfl (by kernel_rfl) hSd (by rfl) (fun w hSw => ?_) (by assumption) ?_
       rotate_left
       · ((try dsimp only [RqC] at hSw); go_simp <;> with_reducible rfl)
       try simp only [Act.put, zz1, zz2, zz3, zz4, zz5, zz6]
       try rw [show decide ((bs.length : Int) ≤ (jb : Int)) = false from decide_eq_false hjn]
       refine wpTo_ts (i := 7) (v := ?_) rfl (by kernel_rfl) hSd (by rfl) (fun w hSw => ?_) (by assumption) ?_
       rotate_left
       · ((try dsimp only [RqC] at hSw); go_simp <;> with_reducible rfl)
       try simp only [Act.put, zz1, zz2, zz3, zz4, zz5, zz6]
       refine wpTo_ts (i := 8) (v := ?_) rfl (by kernel_rfl) hSd (by rfl) (fun w hSw => ?_) (by assumption) ?_
       rotate_left
       · ((try dsimp only [RqC] at hSw); go_simp <;> with_reducible rfl)
       refine wpTo_ts (i := 9) (v := ?_) rfl (by kernel_rfl) hSd (by rfl) (fun w hSw => ?_) (by assumption) ?_
       rotate_left
       · ((try dsimp only [RqC] at hSw); go_simp <;> with_reducible rfl)
       refine wpTo_ts (i := 10) (v := ?_) rfl (by kernel_rfl) hSd (by rfl) (fun w hSw => ?_) (by assumption) ?_
       rotate_left
       · ((try dsimp only [RqC] at hSw); go_simp <;> with_reducible rfl)
       try simp only [Act.put, zz1, zz2, zz3, zz4, zz5, zz6]
       refine wpTo_ts (i := 11) (v := ?_) rfl (by kernel_rfl) hSd (by rfl) (fun w hSw => ?_) (by assumption) ?_
       rotate_left
       · ((try dsimp only [RqC] at hSw); go_simp <;> with_reducible rfl)
       refine wpTo_ts (i := 12) (v := ?_) rfl (by kernel_rfl) hSd (by rfl) (fun w hSw => ?_) (by assumption) ?_
       rotate_left
       · ((try dsimp only [RqC] at hSw); go_simp <;> with_reducible rfl)
       refine wpTo_ts (i := 13) (v := ?_) rfl (by kernel_rfl) hSd (by rfl) (fun w hSw => ?_) (by assumption) ?_
       rotate_left
       · ((try dsimp only [RqC] at hSw); go_simp <;> with_reducible rfl)
       try simp only [Act.put, zz1, zz2, zz3, zz4, zz5, zz6]
       refine wpTo_ts (i := 14) (v := ?_) rfl (by kernel_rfl) hSd (by rfl) (fun w hSw => ?_) (by assumption) ?_
       rotate_left
       · ((try dsimp only [RqC] at hSw); go_simp <;> with_reducible rfl)
       refine wpTo_ts (i := 15) (v := ?_) rfl (by kernel_rfl) hSd (by rfl) (fun w hSw => ?_) (by assumption) ?_
       rotate_left
       · ((try dsimp only [RqC] at hSw); go_simp <;> with_reducible rfl)
       refine wpTo_ts (i := 16) (v := ?_) rfl (by kernel_rfl) hSd (by rfl) (fun w hSw => ?_) (by assumption) ?_
       rotate_left
       · ((try dsimp only [RqC] at hSw); go_simp <;> with_reducible rfl)
       try simp only [Act.put, zz1, zz2, zz3, zz4, zz5, zz6]
       refine wpTo_ts (i := 17) (v := ?_) rfl (by kernel_rfl) hSd (by rfl) (fun w hSw => ?_) (by assumption) ?_
       rotate_left
       · ((try dsimp only [RqC] at hSw); go_simp <;> with_reducible rfl)
       refine wpTo_ts (i := 18) (v := ?_) rfl (by kernel_rfl) hSd (by rfl) (fun w hSw => ?_) (by assumption) ?_
       rotate_left
       · ((try dsimp only [RqC] at hSw); go_simp <;> with_reducible rfl)
       refine wpTo_ts (i := 19) (v := ?_) rfl (by kernel_rfl) hSd (by rfl) (fun w hSw => ?_) (by assumption) ?_
       rotate_left
       · ((try dsimp only [RqC] at hSw); go_simp <;> with_reducible rfl)
       try simp only [Act.put, zz1, zz2, zz3, zz4, zz5, zz6]
       try rw [show decide (rd < q.dp) = false from decide_eq_false hdn]
       refine wpTo_ts (i := 20) (v := ?_) rfl (by kernel_rfl) hSd (by rfl) (fun w hSw => ?_) (by assumption) ?_
       rotate_left
       · ((try dsimp only [RqC] at hSw); go_simp <;> with_reducible rfl)
       try simp only [Act.put, zz1, zz2, zz3, zz4, zz5, zz6]
       refine wpTo_ts (i := 21) (v := ?_) rfl (by kernel_rfl) hSd (by rfl) (fun w hSw => ?_) (by assumption) ?_
       rotate_left
       · ((try dsimp only [RqC] at hSw); go_simp <;> with_reducible rfl)
       refine wpTo_ts (i := 22) (v := ?_) rfl (by kernel_rfl) hSd (by rfl) (fun w hSw => ?_) (by assumption) ?_
       rotate_left
       · ((try dsimp only [RqC] at hSw); go_simp <;> with_reducible rfl)
       refine wpTo_ts (i := 23) (v := ?_) rfl (by kernel_rfl) hSd (by rfl) (fun w hSw => ?_) (by assumption) ?_
       rotate_left
       · ((try dsimp only [RqC] at hSw); go_simp <;> with_reducible rfl)
       try simp only [Act.put, zz1, zz2, zz3, zz4, zz5, zz6]
       refine wpTo_ts (i := 24) (v := ?_) rfl (by kernel_rfl) hSd (by rfl) (fun w hSw => ?_) (by assumption) ?_
       rotate_left
       · ((try dsimp only [RqC] at hSw); go_simp <;> with_reducible rfl)
       refine wpTo_ts (i := 25) (v := ?_) rfl (by kernel_rfl) hSd (by rfl) (fun w hSw => ?_) (by assumption) ?_
       rotate_left
       · ((try dsimp only [RqC] at hSw); go_simp <;> with_reducible rfl)
       refine wpTo_ts (i := 26) (v := ?_) rfl (by kernel_rfl) hSd (by rfl) (fun w hSw => ?_) (by assumption) ?_
       rotate_left
       · ((try dsimp only [RqC] at hSw); go_simp <;> with_reducible rfl)
       try simp only [Act.put, zz1, zz2, zz3, zz4, zz5, zz6]
       refine wpTo_ts (i := 27) (v := ?_) rfl (by kernel_rfl) hSd (by rfl) (fun w hSw => ?_) (by assumption) ?_
       rotate_left
       · ((try dsimp only [RqC] at hSw); go_simp <;> with_reducible rfl)
       refine wpTo_ts (i := 28) (v := ?_) rfl (by kernel_rfl) hSd (by rfl) (fun w hSw => ?_) (by assumption) ?_
       rotate_left
       · ((try dsimp only [RqC] at hSw); go_simp <;> with_reducible rfl)
       refine wpTo_ts (i := 29) (v := ?_) rfl (by kernel_rfl) hSd (by rfl) (fun w hSw => ?_) (by assumption) ?_
       rotate_left
       · ((try dsimp only [RqC] at hSw); go_simp <;> with_reducible rfl)
       try simp only [Act.put, zz1, zz2, zz3, zz4, zz5, zz6]
       refine wpTo_ts (i := 30) (v := ?_) rfl (by kernel_rfl) hSd (by rfl) (fun w hSw => ?_) (by assumption) ?_
       rotate_left
       · ((try dsimp only [RqC] at hSw); go_simp <;> with_reducible rfl)
       refine wpTo_ts (i := 31) (v := ?_) rfl (by kernel_rfl) hSd (by rfl) (fun w hSw => ?_) (by assumption) ?_
       rotate_left
       · ((try dsimp only [RqC] at hSw); go_simp <;> with_reducible rfl)
       refine wpTo_ts (i := 32) (v := ?_) rfl (by kernel_rfl) hSd (by rfl) (fun w hSw => ?_) (by assumption) ?_
       rotate_left
       · ((try dsimp only [RqC] at hSw); go_simp <;> with_reducible rfl)
       try simp only [Act.put, zz1, zz2, zz3, zz4, zz5, zz6]
       try rw [show decide (rh < q.ht) = false from decide_eq_false hhn]
       refine wpTo_ts (i := 33) (v := ?_) rfl (by kernel_rfl) hSd (by rfl) (fun w hSw => ?_) (by assumption) ?_
       rotate_left
       · ((try dsimp only [RqC] at hSw); go_simp <;> with_reducible rfl)
       try simp only [Act.put, zz1, zz2, zz3, zz4, zz5, zz6]
       refine wpTo_done (by kernel_rfl) ?_ _
       refine NoPanic.normal ?_
       go_wp2_with fail
       go_meet
       case rel => exact ⟨rfl, unhide Bu0⟩
      case rest =>
       obtain ⟨rfl, hb8⟩ := hcut
       have HBE := hide (HBQ.out.trans (hb8.mono HBQ.out.size))
       have q0 := (hb8.cell (p := ⟨g, jb * 4, none⟩) hgq).trans F0.out
       have q3 := (hb8.cell (p := ⟨g, jb * 4 + 3, none⟩) hgq).trans F3.out
       clear hb8
       go_wp2_with fail
       go_roundw
       case rel => exact ⟨k + 1, by omega, by go_num, by rw [unhide HPW], by rw [unhide HPG], unhide HBE⟩
       case measure => simp [intOf]; omega
     case neg =>
      obtain rfl : k = us.length := by omega
      rw [HHF.out.we, HHF.out.ge]
      have hb5 := HHF.out.w1
      have hb6 := HHF.out.g1
      simp only at hb5 hb6
      have hw5 : ¬ p.wd < rw0 := by omega
      have hg6 : ¬ p.gram < rm := by omega
      have hew : (rw0 != rw0) = false := by simp
      have heg : (rm != rm) = false := by simp
      have hkn : ¬ (us.length : Int) < (us.length : Int) := by omega
      clear HHF
      have d0q : wq.cell? ⟨g7, i * 5, none⟩ = _ := (hbq.cell (p := ⟨g7, i * 5, none⟩) hg7l).trans d0.out
      have d1q : wq.cell? ⟨g7, i * 5 + 1, none⟩ = _ := (hbq.cell (p := ⟨g7, i * 5 + 1, none⟩) hg7l).trans d1.out
      have d2q : wq.cell? ⟨g7, i * 5 + 2, none⟩ = _ := (hbq.cell (p := ⟨g7, i * 5 + 2, none⟩) hg7l).trans d2.out
      have d4q : wq.cell? ⟨g7, i * 5 + 4, none⟩ = _ := (hbq.cell (p := ⟨g7, i * 5 + 4, none⟩) hg7l).trans d4.out
      have X0 : Hid (wq.cell? ⟨w1.heap.size, 0, none⟩ = some (.int .i64 p.wd)) := (hbq.cell (p := ⟨w1.heap.size, 0, none⟩) zxwo).trans (Kxwo.out 0 (by simp)).1
      have X3 : Hid (wq.cell? ⟨w1.heap.size, 3, none⟩ = some (.int .i64 p.gram)) := (hbq.cell (p := ⟨w1.heap.size, 3, none⟩) zxwo).trans (Kxwo.out 3 (by simp)).1
      have hzx1 : w1.heap.size < wq.heap.size := by have := hbq.size; omega
      have HPQ : Hid (0 < i → wq.cell? ⟨g7, (i - 1) * 5 + 2, none⟩ = some (.int .i64 pd)) := fun h0 => (hbq.cell (p := ⟨g7, (i - 1) * 5 + 2, none⟩) hg7l).trans (HPV.out h0)
      clear HPV
      go_upto_region 23 with fail
      have D0 := hide d0q
      have D1 := hide d1q
      have D2 := hide d2q
      have D4 := hide d4q
      clear d0q d1q d2q d4q
      have Bwq : Hid (Below wq.heap.size wq wq) := Below.refl _ _
      go_cut [155] (fun v wc => v = .bool false ∧ Below wq.heap.size wq wc)
      case first =>
       by_cases hi0 : i = 0
       · subst hi0
         rw [Nat.zero_mul, Nat.zero_add] at D1 D4
         clear HPQ HDP D0 D2
         refine wp_region_noPanic ?_
         have Bu0 : Hid (Below wq.heap.size wq wq.drew) := Bwq.out.drew
         obtain ⟨S, hSdef⟩ : ∃ S : World → Prop, S = (fun w' => w'.cell? ⟨w1.heap.size, 0, none⟩ = some (.int .i64 p.wd) ∧ w'.cell? ⟨w1.heap.size, 3, none⟩ = some (.int .i64 p.gram) ∧ w'.cell? ⟨g7, 1, none⟩ = some (.int .i64 rw0) ∧ w'.cell? ⟨g7, 4, none⟩ = some (.int .i64 rm)) := ⟨_, rfl⟩
         have hSmk : ∀ wq, (wq.cell? ⟨w1.heap.size, 0, none⟩ = some (.int .i64 p.wd)) → (wq.cell? ⟨w1.heap.size, 3, none⟩ = some (.int .i64 p.gram)) → (wq.cell? ⟨g7, 1, none⟩ = some (.int .i64 rw0)) → (wq.cell? ⟨g7, 4, none⟩ = some (.int .i64 rm)) → S wq := fun wq p0 p1 p2 p3 => by rw [hSdef]; exact ⟨p0, p1, p2, p3⟩
         have hSd : ∀ wq, S wq → (fun w' => w'.cell? ⟨w1.heap.size, 0, none⟩ = some (.int .i64 p.wd) ∧ w'.cell? ⟨w1.heap.size, 3, none⟩ = some (.int .i64 p.gram) ∧ w'.cell? ⟨g7, 1, none⟩ = some (.int .i64 rw0) ∧ w'.cell? ⟨g7, 4, none⟩ = some (.int .i64 rm)) wq := fun wq h => by rw [hSdef] at h; exact h
         clear hSdef
         have hHeld : S wq.drew := hSmk wq.drew ((Bu0.out.cell (p := ⟨w1.heap.size, 0, none⟩) hzx1).trans X0.out) ((Bu0.out.cell (p := ⟨w1.heap.size, 3, none⟩) hzx1).trans X3.out) ((Bu0.out.cell (p := ⟨g7, 1, none⟩) hg7q).trans D1.out) ((Bu0.out.cell (p := ⟨g7, 4, none⟩) hg7q).trans D4.out)
         refine wp_region_to (S := S) (T := []) (by kernel_rfl) hHeld (fun _ => ?_)
         generalize wq.drew = u0 at *
         refine wpTo_ts (i := 0) (v := ?_) rfl (by kernel_rfl) hSd (by rfl) (fun w hSw => ?_) (by assumption) ?_
         rotate_left
         · ((try dsimp only [RqC] at hSw); go_simp <;> with_reducible rfl)
         try simp only [Act.put, zz1, zz2, zz3, zz4, zz5, zz6]
         refine wpTo_ts (i := 1) (v := ?_) rfl (by kernel_rfl) hSd (by rfl) (fun w hSw => ?_) (by assumption) ?_
         rotate_left
         · ((try dsimp only [RqC] at hSw); go_simp <;> with_reducible rfl)
         refine wpTo_ts (i := 2) (v := ?_) rfl (by kernel_rfl) hSd (by rfl) (fun w hSw => ?_) (by assumption) ?_
         rotate_left
         · ((try dsimp only [RqC] at hSw); go_simp <;> with_reducible rfl)
         refine wpTo_ts (i := 3) (v := ?_) rfl (by kernel_rfl) hSd (by rfl) (fun w hSw => ?_) (by assumption) ?_
         rotate_left
         · ((try dsimp only [RqC] at hSw); go_simp <;> with_reducible rfl)
         try simp only [Act.put, zz1, zz2, zz3, zz4, zz5, zz6]
         refine wpTo_ts (i := 4) (v := ?_) rfl (by kernel_rfl) hSd (by rfl) (fun w hSw => ?_) (by assumption) ?_
         rotate_left
         · ((try dsimp only [RqC] at hSw); go_simp <;> with_reducible rfl)
         refine wpTo_ts (i := 5) (v := ?_) rfl (by kernel_rfl) hSd (by rfl) (fun w hSw => ?_) (by assumption) ?_
         rotate_left
         · ((try dsimp only [RqC] at hSw); go_simp <;> with_reducible rfl)
         refine wpTo_ts (i := 6) (v := ?_) rfl (by kernel_rfl) hSd (by rfl) (fun w hSw => ?_) (by assumption) ?_
         rotate_left
         · ((try dsimp only [RqC] at hSw); go_simp <;> with_reducible rfl)
         try simp only [Act.put, zz1, zz2, zz3, zz4, zz5, zz6]
         refine wpTo_ts (i := 7) (v := ?_) rfl (by kernel_rfl) hSd (by rfl) (fun w hSw => ?_) (by assumption) ?_
         rotate_left
         · ((try dsimp only [RqC] at hSw); go_simp <;> with_reducible rfl)
         refine wpTo_ts (i := 8) (v := ?_) rfl (by kernel_rfl) hSd (by rfl) (fun w hSw => ?_) (by assumption) ?_
         rotate_left
         · ((try dsimp only [RqC] at hSw); go_simp <;> with_reducible rfl)
         refine wpTo_ts (i := 9) (v := ?_) rfl (by kernel_rfl) hSd (by rfl) (fun w hSw => ?_) (by assumption) ?_
         rotate_left
         · ((try dsimp only [RqC] at hSw); go_simp <;> with_reducible rfl)
         try simp only [Act.put, zz1, zz2, zz3, zz4, zz5, zz6]
         refine wpTo_ts (i := 10) (v := ?_) rfl (by kernel_rfl) hSd (by rfl) (fun w hSw => ?_) (by assumption) ?_
         rotate_left
         · ((try dsimp only [RqC] at hSw); go_simp <;> with_reducible rfl)
         refine wpTo_ts (i := 11) (v := ?_) rfl (by kernel_rfl) hSd (by rfl) (fun w hSw => ?_) (by assumption) ?_
         rotate_left
         · ((try dsimp only [RqC] at hSw); go_simp <;> with_reducible rfl)
         refine wpTo_ts (i := 12) (v := ?_) rfl (by kernel_rfl) hSd (by rfl) (fun w hSw => ?_) (by assumption) ?_
         rotate_left
         · ((try dsimp only [RqC] at hSw); go_simp <;> with_reducible rfl)
         try simp only [Act.put, zz1, zz2, zz3, zz4, zz5, zz6]
         refine wpTo_ts (i := 13) (v := ?_) rfl (by kernel_rfl) hSd (by rfl) (fun w hSw => ?_) (by assumption) ?_
         rotate_left
         · ((try dsimp only [RqC] at hSw); go_simp <;> with_reducible rfl)
         refine wpTo_ts (i := 14) (v := ?_) rfl (by kernel_rfl) hSd (by rfl) (fun w hSw => ?_) (by assumption) ?_
         rotate_left
         · ((try dsimp only [RqC] at hSw); go_simp <;> with_reducible rfl)
         refine wpTo_ts (i := 15) (v := ?_) rfl (by kernel_rfl) hSd (by rfl) (fun w hSw => ?_) (by assumption) ?_
         rotate_left
         · ((try dsimp only [RqC] at hSw); go_simp <;> with_reducible rfl)
         try simp only [Act.put, zz1, zz2, zz3, zz4, zz5, zz6]
         refine wpTo_ts (i := 16) (v := ?_) rfl (by kernel_rfl) hSd (by rfl) (fun w hSw => ?_) (by assumption) ?_
         rotate_left
         · ((try dsimp only [RqC] at hSw); go_simp <;> with_reducible rfl)
         refine wpTo_ts (i := 17) (v := ?_) rfl (by kernel_rfl) hSd (by rfl) (fun w hSw => ?_) (by assumption) ?_
         rotate_left
         · ((try dsimp only [RqC] at hSw); go_simp <;> with_reducible rfl)
         refine wpTo_ts (i := 18) (v := ?_) rfl (by kernel_rfl) hSd (by rfl) (fun w hSw => ?_) (by assumption) ?_
         rotate_left
         · ((try dsimp only [RqC] at hSw); go_simp <;> with_reducible rfl)
         try simp only [Act.put, zz1, zz2, zz3, zz4, zz5, zz6]
         refine wpTo_ts (i := 19) (v := ?_) rfl (by kernel_rfl) hSd (by rfl) (fun w hSw => ?_) (by assumption) ?_
         rotate_left
         · ((try dsimp only [RqC] at hSw); go_simp <;> with_reducible rfl)
         refine wpTo_ts (i := 20) (v := ?_) rfl (by kernel_rfl) hSd (by rfl) (fun w hSw => ?_) (by assumption) ?_
         rotate_left
         · ((try dsimp only [RqC] at hSw); go_simp <;> with_reducible rfl)
         try simp only [Act.put, zz1, zz2, zz3, zz4, zz5, zz6]
         try rw [show decide (p.wd < rw0) = false from decide_eq_false hw5]
         refine wpTo_ts (i := 21) (v := ?_) rfl (by kernel_rfl) hSd (by rfl) (fun w hSw => ?_) (by assumption) ?_
         rotate_left
         · ((try dsimp only [RqC] at hSw); go_simp <;> with_reducible rfl)
         refine wpTo_ts (i := 22) (v := ?_) rfl (by kernel_rfl) hSd (by rfl) (fun w hSw => ?_) (by assumption) ?_
         rotate_left
         · ((try dsimp only [RqC] at hSw); go_simp <;> with_reducible rfl)
         try simp only [Act.put, zz1, zz2, zz3, zz4, zz5, zz6]
         refine wpTo_ts (i := 23) (v := ?_) rfl (by kernel_rfl) hSd (by rfl) (fun w hSw => ?_) (by assumption) ?_
         rotate_left
         · ((try dsimp only [RqC] at hSw); go_simp <;> with_reducible rfl)
         refine wpTo_ts (i := 24) (v := ?_) rfl (by kernel_rfl) hSd (by rfl) (fun w hSw => ?_) (by assumption) ?_
         rotate_left
         · ((try dsimp only [RqC] at hSw); go_simp <;> with_reducible rfl)
         refine wpTo_ts (i := 25) (v := ?_) rfl (by kernel_rfl) hSd (by rfl) (fun w hSw => ?_) (by assumption) ?_
         rotate_left
         · ((try dsimp only [RqC] at hSw); go_simp <;> with_reducible rfl)
         try simp only [Act.put, zz1, zz2, zz3, zz4, zz5, zz6]
         refine wpTo_ts (i := 26) (v := ?_) rfl (by kernel_rfl) hSd (by rfl) (fun w hSw => ?_) (by assumption) ?_
         rotate_left
         · ((try dsimp only [RqC] at hSw); go_simp <;> with_reducible rfl)
         try simp only [Act.put, zz1, zz2, zz3, zz4, zz5, zz6]
         try rw [show decide (p.gram < rm) = false from decide_eq_false hg6]
         refine wpTo_ts (i := 27) (v := ?_) rfl (by kernel_rfl) hSd (by rfl) (fun w hSw => ?_) (by assumption) ?_
         rotate_left
         · ((try dsimp only [RqC] at hSw); go_simp <;> with_reducible rfl)
         refine wpTo_ts (i := 28) (v := ?_) rfl (by kernel_rfl) hSd (by rfl) (fun w hSw => ?_) (by assumption) ?_
         rotate_left
         · ((try dsimp only [RqC] at hSw); go_simp <;> with_reducible rfl)
         refine wpTo_ts (i := 29) (v := ?_) rfl (by kernel_rfl) hSd (by rfl) (fun w hSw => ?_) (by assumption) ?_
         rotate_left
         · ((try dsimp only [RqC] at hSw); go_simp <;> with_reducible rfl)
         try simp only [Act.put, zz1, zz2, zz3, zz4, zz5, zz6]
         refine wpTo_ts (i := 30) (v := ?_) rfl (by kernel_rfl) hSd (by rfl) (fun w hSw => ?_) (by assumption) ?_
         rotate_left
         · ((try dsimp only [RqC] at hSw); go_simp <;> with_reducible rfl)
         refine wpTo_ts (i := 31) (v := ?_) rfl (by kernel_rfl) hSd (by rfl) (fun w hSw => ?_) (by assumption) ?_
         rotate_left
         · ((try dsimp only [RqC] at hSw); go_simp <;> with_reducible rfl)
         try simp only [Act.put, zz1, zz2, zz3, zz4, zz5, zz6]
         refine wpTo_tk (i := 32) (v := undef) rfl (by kernel_rfl) (Or.inr ⟨by rfl, rfl⟩) (by assumption) ?_
         try simp only [Act.put, zz1, zz2, zz3, zz4, zz5, zz6]
         refine wpTo_tk (i := 33) (v := undef) rfl (by kernel_rfl) (Or.inr ⟨by rfl, rfl⟩) (by assumption) ?_
         try simp only [Act.put, zz1, zz2, zz3, zz4, zz5, zz6]
         refine wpTo_tk (i := 34) (v := undef) rfl (by kernel_rfl) (Or.inr ⟨by rfl, rfl⟩) (by assumption) ?_
         try simp only [Act.put, zz1, zz2, zz3, zz4, zz5, zz6]
         refine wpTo_tk (i := 35) (v := undef) rfl (by kernel_rfl) (Or.inr ⟨by rfl, rfl⟩) (by assumption) ?_
         try simp only [Act.put, zz1, zz2, zz3, zz4, zz5, zz6]
         refine wpTo_tk (i := 36) (v := undef) rfl (by kernel_rfl) (Or.inr ⟨by rfl, rfl⟩) (by assumption) ?_
         try simp only [Act.put, zz1, zz2, zz3, zz4, zz5, zz6]
         refine wpTo_tk (i := 37) (v := undef) rfl (by kernel_rfl) (Or.inr ⟨by rfl, rfl⟩) (by assumption) ?_
         try simp only [Act.put, zz1, zz2, zz3, zz4, zz5, zz6]
         refine wpTo_tk (i := 38) (v := undef) rfl (by kernel_rfl) (Or.inr ⟨by rfl, rfl⟩) (by assumption) ?_
         try simp only [Act.put, zz1, zz2, zz3, zz4, zz5, zz6]
         refine wpTo_tk (i := 39) (v := undef) rfl (by kernel_rfl) (Or.inr ⟨by rfl, rfl⟩) (by assumption) ?_
         try simp only [Act.put, zz1, zz2, zz3, zz4, zz5, zz6]
         refine wpTo_tk (i := 40) (v := undef) rfl (by kernel_rfl) (Or.inr ⟨by rfl, rfl⟩) (by assumption) ?_
         try simp only [Act.put, zz1, zz2, zz3, zz4, zz5, zz6]
         refine wpTo_tk (i := 41) (v := undef) rfl (by kernel_rfl) (Or.inr ⟨by rfl, rfl⟩) (by assumption) ?_
         try simp only [Act.put, zz1, zz2, zz3, zz4, zz5, zz6]
         refine wpTo_tk (i := 42) (v := undef) rfl (by kernel_rfl) (Or.inr ⟨by rfl, rfl⟩) (by assumption) ?_
         try simp only [Act.put, zz1, zz2, zz3, zz4, zz5, zz6]
         refine wpTo_tk (i := 43) (v := undef) rfl (by kernel_rfl) (Or.inr ⟨by rfl, rfl⟩) (by assumption) ?_
         try simp only [Act.put, zz1, zz2, zz3, zz4, zz5, zz6]
         refine wpTo_ts (i := 44) (v := ?_) rfl (by kernel_rfl) hSd (by rfl) (fun w hSw => ?_) (by assumption) ?_
         rotate_left
         · ((try dsimp only [RqC] at hSw); go_simp <;> with_reducible rfl)
         refine wpTo_ts (i := 45) (v := ?_) rfl (by kernel_rfl) hSd (by rfl) (fun w hSw => ?_) (by assumption) ?_
         rotate_left
         · ((try dsimp only [RqC] at hSw); go_simp <;> with_reducible rfl)
         try simp only [Act.put, zz1, zz2, zz3, zz4, zz5, zz6]
         refine wpTo_done (by kernel_rfl) ?_ _
         refine NoPanic.normal ?_
         go_wp2_with fail
         go_meet
         case rel => exact ⟨rfl, unhide Bu0⟩
       · obtain ⟨j0, rfl⟩ : ∃ j0, i = j0 + 1 := ⟨i - 1, by omega⟩
         have hdd : ¬ pd < rd := by have := HDP.out (by omega); omega
         have D5 := HPQ.out (by omega)
         rw [Nat.add_sub_cancel] at D5
         have D5 := hide D5
         have hlJ : ((j0 : Int) < (N : Int)) := by omega
         have hlI1 : ((j0 : Int) + 1 < (N : Int)) := by omega
         have hiN1 : (0 : Int) ≤ (j0 : Int) + 1 := by omega
         have hi01 : (0 : Int) < (j0 : Int) + 1 := by omega
         clear HPQ HDP D0
         refine wp_region_noPanic ?_
         have Bu0 : Hid (Below wq.heap.size wq wq.drew) := Bwq.out.drew
         obtain ⟨S, hSdef⟩ : ∃ S : World → Prop, S = (fun w' => w'.cell? ⟨w1.heap.size, 0, none⟩ = some (.int .i64 p.wd) ∧ w'.cell? ⟨w1.heap.size, 3, none⟩ = some (.int .i64 p.gram) ∧ w'.cell? ⟨g7, (j0 + 1) * 5 + 1, none⟩ = some (.int .i64 rw0) ∧ w'.cell? ⟨g7, (j0 + 1) * 5 + 4, none⟩ = some (.int .i64 rm) ∧ w'.cell? ⟨g7, (j0 + 1) * 5 + 2, none⟩ = some (.int .i64 rd) ∧ w'.cell? ⟨g7, j0 * 5 + 2, none⟩ = some (.int .i64 pd)) := ⟨_, rfl⟩
         have hSmk : ∀ wq, (wq.cell? ⟨w1.heap.size, 0, none⟩ = some (.int .i64 p.wd)) → (wq.cell? ⟨w1.heap.size, 3, none⟩ = some (.int .i64 p.gram)) → (wq.cell? ⟨g7, (j0 + 1) * 5 + 1, none⟩ = some (.int .i64 rw0)) → (wq.cell? ⟨g7, (j0 + 1) * 5 + 4, none⟩ = some (.int .i64 rm)) → (wq.cell? ⟨g7, (j0 + 1) * 5 + 2, none⟩ = some (.int .i64 rd)) → (wq.cell? ⟨g7, j0 * 5 + 2, none⟩ = some (.int .i64 pd)) → S wq := fun wq p0 p1 p2 p3 p4 p5 => by rw [hSdef]; exact ⟨p0, p1, p2, p3, p4, p5⟩
         have hSd : ∀ wq, S wq → (fun w' => w'.cell? ⟨w1.heap.size, 0, none⟩ = some (.int .i64 p.wd) ∧ w'.cell? ⟨w1.heap.size, 3, none⟩ = some (.int .i64 p.gram) ∧ w'.cell? ⟨g7, (j0 + 1) * 5 + 1, none⟩ = some (.int .i64 rw0) ∧ w'.cell? ⟨g7, (j0 + 1) * 5 + 4, none⟩ = some (.int .i64 rm) ∧ w'.cell? ⟨g7, (j0 + 1) * 5 + 2, none⟩ = some (.int .i64 rd) ∧ w'.cell? ⟨g7, j0 * 5 + 2, none⟩ = some (.int .i64 pd)) wq := fun wq h => by rw [hSdef] at h; exact h
         clear hSdef
         have hHeld : S wq.drew := hSmk wq.drew ((Bu0.out.cell (p := ⟨w1.heap.size, 0, none⟩) hzx1).trans X0.out) ((Bu0.out.cell (p := ⟨w1.heap.size, 3, none⟩) hzx1).trans X3.out) ((Bu0.out.cell (p := ⟨g7, (j0 + 1) * 5 + 1, none⟩) hg7q).trans D1.out) ((Bu0.out.cell (p := ⟨g7, (j0 + 1) * 5 + 4, none⟩) hg7q).trans D4.out) ((Bu0.out.cell (p := ⟨g7, (j0 + 1) * 5 + 2, none⟩) hg7q).trans D2.out) ((Bu0.out.cell (p := ⟨g7, j0 * 5 + 2, none⟩) hg7q).trans D5.out)
         refine wp_region_to (S := S) (T := []) (by kernel_rfl) hHeld (fun _ => ?_)
         generalize wq.drew = u0 at *
         refine wpTo_ts (i := 0) (v := ?_) rfl (by kernel_rfl) hSd (by rfl) (fun w hSw => ?_) (by assumption) ?_
         rotate_left
         · ((try dsimp only [RqC] at hSw); go_simp <;> with_reducible rfl)
         try simp only [Act.put, zz1, zz2, zz3, zz4, zz5, zz6]
         refine wpTo_ts (i := 1) (v := ?_) rfl (by kernel_rfl) hSd (by rfl) (fun w hSw => ?_) (by assumption) ?_
         rotate_left
         · ((try dsimp only [RqC] at hSw); go_simp <;> with_reducible rfl)
         refine wpTo_ts (i := 2) (v := ?_) rfl (by kernel_rfl) hSd (by rfl) (fun w hSw => ?_) (by assumption) ?_
         rotate_left
         · ((try dsimp only [RqC] at hSw); go_simp <;> with_reducible rfl)
         refine wpTo_ts (i := 3) (v := ?_) rfl (by kernel_rfl) hSd (by rfl) (fun w hSw => ?_) (by assumption) ?_
         rotate_left
         · ((try dsimp only [RqC] at hSw); go_simp <;> with_reducible rfl)
         try simp only [Act.put, zz1, zz2, zz3, zz4, zz5, zz6]
         refine wpTo_ts (i := 4) (v := ?_) rfl (by kernel_rfl) hSd (by rfl) (fun w hSw => ?_) (by assumption) ?_
         rotate_left
         · ((try dsimp only [RqC] at hSw); go_simp <;> with_reducible rfl)
         refine wpTo_ts (i := 5) (v := ?_) rfl (by kernel_rfl) hSd (by rfl) (fun w hSw => ?_) (by assumption) ?_
         rotate_left
         · ((try dsimp only [RqC] at hSw); go_simp <;> with_reducible rfl)
         refine wpTo_ts (i := 6) (v := ?_) rfl (by kernel_rfl) hSd (by rfl) (fun w hSw => ?_) (by assumption) ?_
         rotate_left
         · ((try dsimp only [RqC] at hSw); go_simp <;> with_reducible rfl)
         try simp only [Act.put, zz1, zz2, zz3, zz4, zz5, zz6]
         refine wpTo_ts (i := 7) (v := ?_) rfl (by kernel_rfl) hSd (by rfl) (fun w hSw => ?_) (by assumption) ?_
         rotate_left
         · ((try dsimp only [RqC] at hSw); go_simp <;> with_reducible rfl)
         refine wpTo_ts (i := 8) (v := ?_) rfl (by kernel_rfl) hSd (by rfl) (fun w hSw => ?_) (by assumption) ?_
         rotate_left
         · ((try dsimp only [RqC] at hSw); go_simp <;> with_reducible rfl)
         refine wpTo_ts (i := 9) (v := ?_) rfl (by kernel_rfl) hSd (by rfl) (fun w hSw => ?_) (by assumption) ?_
         rotate_left
         · ((try dsimp only [RqC] at hSw); go_simp <;> with_reducible rfl)
         try simp only [Act.put, zz1, zz2, zz3, zz4, zz5, zz6]
         refine wpTo_ts (i := 10) (v := ?_) rfl (by kernel_rfl) hSd (by rfl) (fun w hSw => ?_) (by assumption) ?_
         rotate_left
         · ((try dsimp only [RqC] at hSw); go_simp <;> with_reducible rfl)
         refine wpTo_ts (i := 11) (v := ?_) rfl (by kernel_rfl) hSd (by rfl) (fun w hSw => ?_) (by assumption) ?_
         rotate_left
         · ((try dsimp only [RqC] at hSw); go_simp <;> with_reducible rfl)
         refine wpTo_ts (i := 12) (v := ?_) rfl (by kernel_rfl) hSd (by rfl) (fun w hSw => ?_) (by assumption) ?_
         rotate_left
         · ((try dsimp only [RqC] at hSw); go_simp <;> with_reducible rfl)
         try simp only [Act.put, zz1, zz2, zz3, zz4, zz5, zz6]
         refine wpTo_ts (i := 13) (v := ?_) rfl (by kernel_rfl) hSd (by rfl) (fun w hSw => ?_) (by assumption) ?_
         rotate_left
         · ((try dsimp only [RqC] at hSw); go_simp <;> with_reducible rfl)
         refine wpTo_ts (i := 14) (v := ?_) rfl (by kernel_rfl) hSd (by rfl) (fun w hSw => ?_) (by assumption) ?_
         rotate_left
         · ((try dsimp only [RqC] at hSw); go_simp <;> with_reducible rfl)
         refine wpTo_ts (i := 15) (v := ?_) rfl (by kernel_rfl) hSd (by rfl) (fun w hSw => ?_) (by assumption) ?_
         rotate_left
         · ((try dsimp only [RqC] at hSw); go_simp <;> with_reducible rfl)
         try simp only [Act.put, zz1, zz2, zz3, zz4, zz5, zz6]
         refine wpTo_ts (i := 16) (v := ?_) rfl (by kernel_rfl) hSd (by rfl) (fun w hSw => ?_) (by assumption) ?_
         rotate_left
         · ((try dsimp only [RqC] at hSw); go_simp <;> with_reducible rfl)
         refine wpTo_ts (i := 17) (v := ?_) rfl (by kernel_rfl) hSd (by rfl) (fun w hSw => ?_) (by assumption) ?_
         rotate_left
         · ((try dsimp only [RqC] at hSw); go_simp <;> with_reducible rfl)
         refine wpTo_ts (i := 18) (v := ?_) rfl (by kernel_rfl) hSd (by rfl) (fun w hSw => ?_) (by assumption) ?_
         rotate_left
         · ((try dsimp only [RqC] at hSw); go_simp <;> with_reducible rfl)
         try simp only [Act.put, zz1, zz2, zz3, zz4, zz5, zz6]
         refine wpTo_ts (i := 19) (v := ?_) rfl (by kernel_rfl) hSd (by rfl) (fun w hSw => ?_) (by assumption) ?_
         rotate_left
         · ((try dsimp only [RqC] at hSw); go_simp <;> with_reducible rfl)
         refine wpTo_ts (i := 20) (v := ?_) rfl (by kernel_rfl) hSd (by rfl) (fun w hSw => ?_) (by assumption) ?_
         rotate_left
         · ((try dsimp only [RqC] at hSw); go_simp <;> with_reducible rfl)
         try simp only [Act.put, zz1, zz2, zz3, zz4, zz5, zz6]
         try rw [show decide (p.wd < rw0) = false from decide_eq_false hw5]
         refine wpTo_ts (i := 21) (v := ?_) rfl (by kernel_rfl) hSd (by rfl) (fun w hSw => ?_) (by assumption) ?_
         rotate_left
         · ((try dsimp only [RqC] at hSw); go_simp <;> with_reducible rfl)
         refine wpTo_ts (i := 22) (v := ?_) rfl (by kernel_rfl) hSd (by rfl) (fun w hSw => ?_) (by assumption) ?_
         rotate_left
         · ((try dsimp only [RqC] at hSw); go_simp <;> with_reducible rfl)
         try simp only [Act.put, zz1, zz2, zz3, zz4, zz5, zz6]
         refine wpTo_ts (i := 23) (v := ?_) rfl (by kernel_rfl) hSd (by rfl) (fun w hSw => ?_) (by assumption) ?_
         rotate_left
         · ((try dsimp only [RqC] at hSw); go_simp <;> with_reducible rfl)
         refine wpTo_ts (i := 24) (v := ?_) rfl (by kernel_rfl) hSd (by rfl) (fun w hSw => ?_) (by assumption) ?_
         rotate_left
         · ((try dsimp only [RqC] at hSw); go_simp <;> with_reducible rfl)
         refine wpTo_ts (i := 25) (v := ?_) rfl (by kernel_rfl) hSd (by rfl) (fun w hSw => ?_) (by assumption) ?_
         rotate_left
         · ((try dsimp only [RqC] at hSw); go_simp <;> with_reducible rfl)
         try simp only [Act.put, zz1, zz2, zz3, zz4, zz5, zz6]
         refine wpTo_ts (i := 26) (v := ?_) rfl (by kernel_rfl) hSd (by rfl) (fun w hSw => ?_) (by assumption) ?_
         rotate_left
         · ((try dsimp only [RqC] at hSw); go_simp <;> with_reducible rfl)
         try simp only [Act.put, zz1, zz2, zz3, zz4, zz5, zz6]
         try rw [show decide (p.gram < rm) = false from decide_eq_false hg6]
         refine wpTo_ts (i := 27) (v := ?_) rfl (by kernel_rfl) hSd (by rfl) (fun w hSw => ?_) (by assumption) ?_
         rotate_left
         · ((try dsimp only [RqC] at hSw); go_simp <;> with_reducible rfl)
         refine wpTo_ts (i := 28) (v := ?_) rfl (by kernel_rfl) hSd (by rfl) (fun w hSw => ?_) (by assumption) ?_
         rotate_left
         · ((try dsimp only [RqC] at hSw); go_simp <;> with_reducible rfl)
         refine wpTo_ts (i := 29) (v := ?_) rfl (by kernel_rfl) hSd (by rfl) (fun w hSw => ?_) (by assumption) ?_
         rotate_left
         · ((try dsimp only [RqC] at hSw); go_simp <;> with_reducible rfl)
         try simp only [Act.put, zz1, zz2, zz3, zz4, zz5, zz6]
         refine wpTo_ts (i := 30) (v := ?_) rfl (by kernel_rfl) hSd (by rfl) (fun w hSw => ?_) (by assumption) ?_
         rotate_left
         · ((try dsimp only [RqC] at hSw); go_simp <;> with_reducible rfl)
         try simp only [Act.put, zz1, zz2, zz3, zz4, zz5, zz6]
         try rw [show decide ((0 : Int) < (j0 : Int) + 1) = true from decide_eq_true (by omega)]
         refine wpTo_ts (i := 31) (v := ?_) rfl (by kernel_rfl) hSd (by rfl) (fun w hSw => ?_) (by assumption) ?_
         rotate_left
         · ((try dsimp only [RqC] at hSw); go_simp <;> with_reducible rfl)
         refine wpTo_ts (i := 32) (v := ?_) rfl (by kernel_rfl) hSd (by rfl) (fun w hSw => ?_) (by assumption) ?_
         rotate_left
         · ((try dsimp only [RqC] at hSw); go_simp <;> with_reducible rfl)
         refine wpTo_ts (i := 33) (v := ?_) rfl (by kernel_rfl) hSd (by rfl) (fun w hSw => ?_) (by assumption) ?_
         rotate_left
         · ((try dsimp only [RqC] at hSw); go_simp <;> with_reducible rfl)
         try simp only [Act.put, zz1, zz2, zz3, zz4, zz5, zz6]
         refine wpTo_ts (i := 34) (v := ?_) rfl (by kernel_rfl) hSd (by rfl) (fun w hSw => ?_) (by assumption) ?_
         rotate_left
         · ((try dsimp only [RqC] at hSw); go_simp <;> with_reducible rfl)
         refine wpTo_ts (i := 35) (v := ?_) rfl (by kernel_rfl) hSd (by rfl) (fun w hSw => ?_) (by assumption) ?_
         rotate_left
         · ((try dsimp only [RqC] at hSw); go_simp <;> with_reducible rfl)
         refine wpTo_ts (i := 36) (v := ?_) rfl (by kernel_rfl) hSd (by rfl) (fun w hSw => ?_) (by assumption) ?_
         rotate_left
         · ((try dsimp only [RqC] at hSw); go_simp <;> with_reducible rfl)
         try simp only [Act.put, zz1, zz2, zz3, zz4, zz5, zz6]
         refine wpTo_ts (i := 37) (v := ?_) rfl (by kernel_rfl) hSd (by rfl) (fun w hSw => ?_) (by assumption) ?_
         rotate_left
         · ((try dsimp only [RqC] at hSw); go_simp <;> with_reducible rfl)
         refine wpTo_ts (i := 38) (v := ?_) rfl (by kernel_rfl) hSd (by rfl) (fun w hSw => ?_) (by assumption) ?_
         rotate_left
         · ((try dsimp only [RqC] at hSw); go_simp <;> with_reducible rfl)
         refine wpTo_ts (i := 39) (v := ?_) rfl (by kernel_rfl) hSd (by rfl) (fun w hSw => ?_) (by assumption) ?_
         rotate_left
         · ((try dsimp only [RqC] at hSw); go_simp <;> with_reducible rfl)
         try simp only [Act.put, zz1, zz2, zz3, zz4, zz5, zz6]
         try rw [wrap_fits (x := (j0 : Int)) (by omega) (by omega)]
         refine wpTo_ts (i := 40) (v := ?_) rfl (by kernel_rfl) hSd (by rfl) (fun w hSw => ?_) (by assumption) ?_
         rotate_left
         · ((try dsimp only [RqC] at hSw); go_simp <;> with_reducible rfl)
         try simp only [Act.put, zz1, zz2, zz3, zz4, zz5, zz6]
         refine wpTo_ts (i := 41) (v := ?_) rfl (by kernel_rfl) hSd (by rfl) (fun w hSw => ?_) (by assumption) ?_
         rotate_left
         · ((try dsimp only [RqC] at hSw); go_simp <;> with_reducible rfl)
         refine wpTo_ts (i := 42) (v := ?_) rfl (by kernel_rfl) hSd (by rfl) (fun w hSw => ?_) (by assumption) ?_
         rotate_left
         · ((try dsimp only [RqC] at hSw); go_simp <;> with_reducible rfl)
         refine wpTo_ts (i := 43) (v := ?_) rfl (by kernel_rfl) hSd (by rfl) (fun w hSw => ?_) (by assumption) ?_
         rotate_left
         · ((try dsimp only [RqC] at hSw); go_simp <;> with_reducible rfl)
         try simp only [Act.put, zz1, zz2, zz3, zz4, zz5, zz6]
         try rw [show decide (pd < rd) = false from decide_eq_false hdd]
         refine wpTo_ts (i := 44) (v := ?_) rfl (by kernel_rfl) hSd (by rfl) (fun w hSw => ?_) (by assumption) ?_
         rotate_left
         · ((try dsimp only [RqC] at hSw); go_simp <;> with_reducible rfl)
         try simp only [Act.put, zz1, zz2, zz3, zz4, zz5, zz6]
         refine wpTo_ts (i := 45) (v := ?_) rfl (by kernel_rfl) hSd (by rfl) (fun w hSw => ?_) (by assumption) ?_
         rotate_left
         · ((try dsimp only [RqC] at hSw); go_simp <;> with_reducible rfl)
         try simp only [Act.put, zz1, zz2, zz3, zz4, zz5, zz6]
         refine wpTo_done (by kernel_rfl) ?_ _
         refine NoPanic.normal ?_
         go_wp2_with fail
         go_meet
         case rel => exact ⟨rfl, unhide Bu0⟩
      case rest =>
       obtain ⟨rfl, hb8⟩ := hcut
       have HBE := hide (hbl0.out.trans ((HBQ.out.trans (hb8.mono HBQ.out.size)).mono hbl0.out.size))
       have HBC := hide (HBQ.out.trans (hb8.mono HBQ.out.size))
       have d0 := (hb8.cell (p := ⟨g7, i * 5, none⟩) hg7q).trans D0.out
       have HOc := hide (own_later HO8.out HBC.out)
       have hnews := hide (news_of_rd (HRW.out.mono HBC.out))
       have hszc := HBE.out.size
       clear hb8 HO8 D0 D1 D2 D4 X0 X3 Bwq HPQ
       go_wp2_with (first
        | (at_builtin; refine append_opt _ rfl _ _ 49 rfl w5.heap.size 3 i0 (.int .i64 0) 1 8 Try.underlying49 hi hz0 hz1 hz2 rfl (by decide) (.slice (some ⟨g8, 0, none⟩) t cap8) t (cih (flatTo (shelvesR p bs) i)) rfl HOc.out (some ⟨rg, 0, none⟩) us.length rc (cih us) rfl (fun h => by cases h) (by rw [cih_len, Nat.mul_one]) hnews.out (cih_one us) (by unfold maxLen; omega) (by omega) (by omega) (by simp) ?_; intro g5 cap5 v5 ho5 hg5; have HB5 := hide (HBE.out.grown hg5 hszc (fun b hb => by have : g8 = b := (by simpa [Value.ownBlock] using hb); omega)); have HO5 := hide ho5; clear ho5 hg5)
        | fail)
       go_roundw
       case rel => exact ⟨i + 1, t + us.length, g5, cap5, by omega, by go_num, by rw [unhide HSI, List.length_append, ← unhide HT], by go_num, by have h := unhide HO5; rw [unhide HSI]; simpa [cih, Hid] using h, unhide HB5⟩
       case measure => simp [intOf]; omega
end Go.Proofs.Ytcblpoeeembniaa
