/- Units told, taken, and together: the program. -/
import Derived.Test.YtdmaldjnjffnlabGreatDoorTakePlain
import Derived.Test.YtdmaldjnjffnlabGreatDoorNextImpl
import Derived.Test.YtdmaldjnjffnlabGreatDoorPackImpl
import Derived.Test.YtdmaldjnjffnlabGreatDoorPutFrom
import Derived.Deep.DeepMust
import Derived.Deep.DeepCutAuto
import Derived.Deep.RegionHeld3
namespace Go.Proofs.YtdmaldjnjffnlabGreatDoor
open Go Go.RowKit
set_option linter.unusedVariables false
set_option linter.unusedSimpArgs false

theorem cellsN_atD (l : List Nat) (i : Nat) (h : i < l.length) : (cellsN l)[i]? = some (.int .i64 ((l.getD i 0 : Nat) : Int)) := by
  rw [cellsN_at l i h]
  simp [List.getD_eq_getElem?_getD, h]
theorem cellsN_len (l : List Nat) : (cellsN l).length = l.length := by simp [cellsN]
theorem cellsN_set (l : List Nat) (i p : Nat) : (cellsN l).set i (.int .i64 (p : Int)) = cellsN (l.set i p) := by simp [cellsN, List.map_set]
theorem Rd.atT {w : World} {b n : Nat} {us : List Int} (h : Rd w (some ⟨b, 0, none⟩) n us) (i : Nat) (hi : i < n) : w.cell? ⟨b, i, none⟩ = some (.int .i64 (us.getD i 0)) := by
  obtain ⟨b', off, e, hc⟩ := h.2 i hi
  injection e with e
  injection e with e1 e2
  subst e1 e2
  rwa [Nat.zero_add] at hc
set_option maxRecDepth 100000 in
set_option maxHeartbeats 4000000 in
theorem howOften_any (xs : List ItemV) (Bk N ecap : Nat) (ea : Option Addr) (c1 c2 c3 c4 : Value) (a : Option Addr) (n c : Nat) (us : List Int) (w : World) (hk : Blk w Bk [.slice ea N ecap, c1, c2, c3, c4]) (hbk : Bk < w.heap.size) (hN : N = (unitsL xs).length) (hN12 : N ≤ 1000) (hu : Rd w a n us) (hn : n ≤ 1048576) :
    Calls Tryz.prog 69 #[.pointer (some ⟨Bk, 0, none⟩), .slice a n c] w fun e w' => ∃ F, e = .returned (.slice (some ⟨F, 0, none⟩) N N) ∧ Blk w' F (cellsN (oftenL N (knownL xs us))) ∧ w.heap.size ≤ F ∧ F < w'.heap.size ∧ Below w.heap.size w w' := by
  obtain ⟨i0, hi, hz0, hz1, hz2⟩ := info_parts Tryz.infoInts
  have hbb : i0.bytes * N ≤ 281474976710656 := by rw [hz2]; omega
  have HK := hide hk
  have HU := hide hu
  have hul := hu.1
  have HNL := hide hN
  have c0 : w.cell? ⟨Bk, 0, none⟩ = some (.slice ea N ecap) := (hk 0 (by simp)).1
  clear hk hu hN
  go_enter Tryz.func69, Tryz.ntmps69
  go_wp2_with (first
    | (at_make; refine wpList_make_full _ rfl _ _ 29 rfl w.heap.size 3 i0 (.int .i64 0) 1 Tryz.underlying29 hi hz0 hz1 .i64 .i64 N N N rfl rfl rfl rfl hbb (by unfold maxLen; omega) (Nat.le_refl _) ?_; intro w1 hown hgrow)
    | fail)
  have hown0 : w1.ownsRow w.heap.size 3 1 (.slice (some ⟨w.heap.size, 0, none⟩) N N) N (cellsN (List.replicate N 0)) := by
    simpa [toList_madeCells_one, Value.cells, cellsN] using hown
  have hb1 : Below w.heap.size w w1 := (Below.refl _ _).grown hgrow (Nat.le_refl _) (by simp)
  have hlt1 := (hown0.lt _ rfl).2
  have HF1 : Hid (Blk w1 w.heap.size (cellsN (List.replicate N 0))) := fun i hi => ⟨hown0.cellAt i (by simpa [cellsN] using hi), hown0.frozenAt i⟩
  have K1 := hide (Blk.below hb1 hbk (unhide HK))
  have U1 := hide ((unhide HU).mono hb1)
  have hbk1 : Bk < w1.heap.size := Nat.lt_of_lt_of_le hbk hb1.size
  have HB1 := hide hb1
  clear hown hown0 hgrow hb1 c0
  go_wp2_with fail
  refine (there_any xs Bk N ecap ea c1 c2 c3 c4 a n c us w1 (unhide K1) hbk1 (unhide HNL) hN12 (unhide U1) (by omega)).mono ?_
  rintro e w2 ⟨tg, tc, rfl, hto, hb2⟩
  have HF2 := hide (Blk.below hb2 hlt1 (unhide HF1))
  have hlt2 : w.heap.size < w2.heap.size := Nat.lt_of_lt_of_le hlt1 hb2.size
  have HB2 := hide ((unhide HB1).trans (hb2.mono (unhide HB1).size))
  have HT2 : Hid (Rd w2 (some ⟨tg, 0, none⟩) (knownL xs us).length (knownL xs us)) := Rd.of_owns hto
  have htg := hto.lt tg rfl
  have HIN : Hid (∀ k, k < (knownL xs us).length → ∃ v : Nat, (knownL xs us).getD k 0 = v ∧ v < N) := fun k hk => by rw [unhide HNL]; exact knownL_at hk
  have hml := knownL_len xs us
  clear hto hb2 HF1 K1 U1 HB1 HK
  generalize hKL : knownL xs us = KL at *
  have HKL := hide hKL
  clear hKL
  go_wp2_with fail
  go_loopw [18] (fun i wr => ∃ k : Nat, k ≤ KL.length ∧ i = .int .i64 k ∧ Blk wr w.heap.size (cellsN (oftenL N (KL.take k))) ∧ Rd wr (some ⟨tg, 0, none⟩) KL.length KL ∧ w.heap.size < wr.heap.size ∧ Below w.heap.size w wr) (fun i _ => KL.length - (intOf i).toNat)
  case atStart => exact ⟨0, Nat.zero_le _, rfl, by rw [List.take_zero, oftenL_nil]; exact unhide HF2, unhide HT2, hlt2, unhide HB2⟩
  case round =>
    clear HF2 HT2 HB2
    obtain ⟨k, hk, rfl, hF, hT, hz, hb⟩ := hrel
    have HF := hide hF
    have HT := hide hT
    have HB := hide hb
    by_cases hlk : k < KL.length
    case neg =>
      have hk2 : KL.length ≤ k := by omega
      have hkl : ¬ ((k : Int) < (KL.length : Int)) := by omega
      clear hF hT hb
      go_wp2
      go_ret
      refine ⟨w.heap.size, rfl, ?_, Nat.le_refl _, hz, unhide HB⟩
      have := unhide HF
      rw [List.take_of_length_le hk2] at this
      rw [unhide HKL]
      exact this
    obtain ⟨v, hv, hvN⟩ := (unhide HIN) k hlk
    have hcu := Rd.atT hT k hlk
    rw [hv] at hcu
    have hv2 : v < (cellsN (oftenL N (KL.take k))).length := by rw [cellsN_len, oftenL_len]; exact hvN
    have cf := (hF v hv2).1
    have cz := (hF v hv2).2
    rw [cellsN_atD _ _ (by rw [oftenL_len]; exact hvN), oftenL_at hvN] at cf
    have hq : (KL.take k).count (v : Int) ≤ k := Nat.le_trans List.count_le_length (by rw [List.length_take]; omega)
    have HPUT := hide (oftenL_put (us := KL.take k) hvN)
    have HTK : Hid (KL.take (k + 1) = KL.take k ++ [(v : Int)]) := by
      rw [Hid, List.take_succ_eq_append_getElem hlk]
      congr 2
      rw [← hv]
      simp [List.getD_eq_getElem?_getD, hlk]
    generalize (KL.take k).count (v : Int) = q at *
    clear hF hT hb hv
    go_wp2
    go_roundw
    case rel =>
      refine ⟨k + 1, by omega, by go_num, ?_, ?_, by simpa using hz, (unhide HB).setCell (p := ⟨w.heap.size, v, none⟩) (Nat.le_refl _) _⟩
      · have := (unhide HF).set (j := v) (v := .int .i64 ((q + 1 : Nat) : Int)) hv2
        rw [cellsN_set, unhide HPUT, ← unhide HTK] at this
        exact this
      · exact Rd.grown (unhide HT) (gb_set (World.grownBy.refl _ _) _ _) (fun x hx => by cases hx; show tg ≠ w.heap.size; omega)
    case measure => simp [intOf]; omega
set_option maxRecDepth 100000 in
set_option maxHeartbeats 4000000 in
theorem takenFrom_any (F N fc : Nat) (a : Option Addr) (n c : Nat) (cs : List Int) (lf : List Nat) (w : World) (hF : Blk w F (cellsN lf)) (hl : lf.length = N) (hFlt : F < w.heap.size) (hN : N ≤ 1000) (hB : ∀ v, v < lf.length → lf.getD v 0 ≤ 1048576) (hu : Rd w a n cs) (hub : ∀ x, a = some x → x.block < w.heap.size ∧ x.block ≠ F) (hn : n ≤ 1048576) :
    Calls Tryz.prog 70 #[.slice (some ⟨F, 0, none⟩) N fc, .slice a n c] w fun e w' => ∃ b, e = .returned (.bool b) ∧ (b = false → takeL lf cs = none) ∧ (b = true → ∃ lf', takeL lf cs = some lf' ∧ Blk w' F (cellsN lf')) ∧ Fr w.heap.size F w w' := by
  have HF0 := hide hF
  have HU := hide hu
  have hul := hu.1
  have HBB := hide hB
  have HUB := hide hub
  clear hF hu hB hub
  go_enter Tryz.func70, Tryz.ntmps70
  go_wp2
  go_loopw [9] (fun i wr => ∃ (k : Nat) (lk : List Nat), k ≤ n ∧ i = .int .i64 k ∧ takeL lf (cs.take k) = some lk ∧ Blk wr F (cellsN lk) ∧ Fr w.heap.size F w wr) (fun i _ => n - (intOf i).toNat)
  case atStart => exact ⟨0, lf, Nat.zero_le _, rfl, rfl, unhide HF0, Fr.refl _ _ _⟩
  case round =>
    clear HF0
    obtain ⟨k, lk, hk, rfl, htk, hF, hfr⟩ := hrel
    have HF := hide hF
    have HT := hide htk
    have HR := hide hfr
    by_cases hlk : k < n
    case neg =>
      obtain rfl : k = n := by omega
      have e : cs.take k = cs := List.take_of_length_le (by omega)
      rw [e] at HT
      clear htk hF hfr e
      go_wp2
      go_ret
      exact ⟨true, rfl, (fun h => by cases h), fun _ => ⟨lk, unhide HT, unhide HF⟩, unhide HR⟩
    obtain ⟨b, off, hua, hc⟩ := ((unhide HU).fr hfr (unhide HUB)).2 k hlk
    have hkc : k < cs.length := by omega
    obtain ⟨hlk2, hble⟩ := takeL_le htk (unhide HBB)
    have HNO := hide (takeL_fail htk hkc)
    have HOK := hide (fun (v : Nat) => takeL_step_ok (v := v) htk hkc)
    subst hua
    generalize cs.getD k 0 = x at *
    have hlN : lk.length = N := by omega
    clear htk hfr
    go_wp2_with fail
    refine (within_any _ _ _ _).mono ?_
    rintro e w2 ⟨rfl, hw⟩
    subst w2
    cases hin : inB x 0 ((N : Int) - 1)
    case false =>
      have HN0 := hide ((unhide HNO) (fun h => by have h2 : inB x 0 ((N : Int) - 1) = true := inB_iff.2 ⟨h.1, by omega⟩; rw [hin] at h2; cases h2))
      clear hin hF
      go_wp2
      go_ret
      exact ⟨false, rfl, (fun _ => unhide HN0), (fun h => by cases h), unhide HR⟩
    case true =>
      obtain ⟨v, rfl⟩ : ∃ v : Nat, x = (v : Int) := ⟨x.toNat, by rw [inB_iff] at hin; omega⟩
      have hvN : v < N := by rw [inB_iff] at hin; omega
      have hv2 : v < (cellsN lk).length := by rw [cellsN_len]; omega
      have cf := (hF v hv2).1
      have cz := (hF v hv2).2
      rw [cellsN_atD _ _ (by omega)] at cf
      have hqb := hble v (by omega)
      have HOK2 := hide ((unhide HOK) v rfl (by omega))
      have HNO2 := hide (fun h0 : lk.getD v 0 = 0 => (unhide HNO) (fun h => h.2.2 (by simpa using h0)))
      generalize lk.getD v 0 = q at *
      clear hF hin
      by_cases hq : q = 0
      · have HN0 := hide ((unhide HNO2) hq)
        subst hq
        go_wp2
        go_ret
        exact ⟨false, rfl, (fun _ => unhide HN0), (fun h => by cases h), unhide HR⟩
      · have HST := hide ((unhide HOK2) hq)
        obtain ⟨p, rfl⟩ : ∃ p, q = p + 1 := ⟨q - 1, by omega⟩
        have hq2 : ¬ (((p + 1 : Nat) : Int) = 0) := by omega
        have hq3 : (((p + 1 : Nat) : Int) == 0) = false := by simp; omega
        clear hq
        go_wp2
        go_roundw
        case rel =>
          refine ⟨k + 1, lk.set v p, by omega, by go_num, unhide HST, ?_, (unhide HR).set (p := ⟨F, v, none⟩) (.inl rfl) _⟩
          have := (unhide HF).set (j := v) (v := .int .i64 (p : Int)) hv2
          rw [cellsN_set] at this
          have e9 : (((p + 1 : Nat) : Int) - 1) = (p : Int) := by omega
          first | exact this | (rw [e9]; exact this) | (simpa using this)
        case measure => simp [intOf]; omega
set_option maxRecDepth 100000 in
set_option maxHeartbeats 4000000 in
theorem together_any (xs : List ItemV) (Bk eb N ecap : Nat) (ea : Option Addr) (c1 c2 c3 c4 : Value) (a : Option Addr) (n c : Nat) (us : List Int) (w : World) (hk : Blk w Bk [.slice ea N ecap, c1, c2, c3, c4]) (hbk : Bk < w.heap.size) (hea : 0 < N → ea = some ⟨eb, 0, none⟩) (hE : EachOk w eb N xs) (hin : ∀ k, k < n → ∃ v : Nat, us.getD k 0 = v ∧ v < N) (hu : Rd w a n us) (hgd : ∀ q ∈ xs, 1 ≤ q.gram ∧ q.gram ≤ 100000) (hn : n ≤ 1048576) :
    Calls Tryz.prog 71 #[.pointer (some ⟨Bk, 0, none⟩), .slice a n c] w fun e w' => e = .returned (.agg #[.int .i64 (volOf xs us), .int .i64 (gramOf xs us)]) ∧ Below w.heap.size w w' := by
  have HK := hide hk
  have HU := hide hu
  have hul := hu.1
  have HE := hide hE
  have HIN := hide hin
  clear hk hu hE hin
  go_enter Tryz.func71, Tryz.ntmps71
  go_wp2
  have BwA : Hid (Below w.heap.size w ((w.alloc (.cells #[.int .i64 0, .int .i64 0] 92)).alloc (.cells #[.int .i64 0, .int .i64 0] 92))) := (((Below.refl _ _).alloc (by simp) _).alloc (by simp) _)
  have KowA : Hid (Blk ((w.alloc (.cells #[.int .i64 0, .int .i64 0] 92)).alloc (.cells #[.int .i64 0, .int .i64 0] 92)) w.heap.size [.int .i64 0, .int .i64 0]) := ((Blk.allocAt (w := w) [.int .i64 0, .int .i64 0] (by simp)).allocOld (by simp) _)
  have ZowA : w.heap.size < ((w.alloc (.cells #[.int .i64 0, .int .i64 0] 92)).alloc (.cells #[.int .i64 0, .int .i64 0] 92)).heap.size := by simp <;> omega
  have Go : w.heap.size ≤ w.heap.size := by omega
  have KswA : Hid (Blk ((w.alloc (.cells #[.int .i64 0, .int .i64 0] 92)).alloc (.cells #[.int .i64 0, .int .i64 0] 92)) (w.heap.size + 1) [.int .i64 0, .int .i64 0]) := (Blk.allocAt (w := (w.alloc (.cells #[.int .i64 0, .int .i64 0] 92))) [.int .i64 0, .int .i64 0] (by simp))
  have ZswA : (w.heap.size + 1) < ((w.alloc (.cells #[.int .i64 0, .int .i64 0] 92)).alloc (.cells #[.int .i64 0, .int .i64 0] 92)).heap.size := by simp
  have Gs : w.heap.size ≤ (w.heap.size + 1) := by omega
  have Nqos : w.heap.size ≠ (w.heap.size + 1) := by omega
  have Nqso : (w.heap.size + 1) ≠ w.heap.size := by omega
  generalize ((w.alloc (.cells #[.int .i64 0, .int .i64 0] 92)).alloc (.cells #[.int .i64 0, .int .i64 0] 92)) = wA at *
  go_loopw [11] (fun i wr => ∃ (k : Nat) (t g : Int), k ≤ n ∧ i = .int .i64 k ∧ t = ((us.take k).map (volAt xs)).sum ∧ g = ((us.take k).map (gramAt xs)).sum ∧ Blk wr (w.heap.size + 1) [.int .i64 t, .int .i64 g] ∧ (w.heap.size + 1) < wr.heap.size ∧ Blk wr w.heap.size [.int .i64 0, .int .i64 0] ∧ w.heap.size < wr.heap.size ∧ Below w.heap.size w wr) (fun i _ => n - (intOf i).toNat)
  case atStart => exact ⟨0, 0, 0, Nat.zero_le _, rfl, by simp, by simp, unhide KswA, ZswA, unhide KowA, ZowA, unhide BwA⟩
  case round =>
    clear BwA KswA ZswA KowA ZowA
    obtain ⟨k, t, g, hk, rfl, ht, hg, ks, Zswr, ko, Zowr, hb⟩ := hrel
    have Bwr := hide hb
    have Kswr := hide ks
    have Kowr := hide ko
    have HT1 := hide ht
    have HT2 := hide hg
    clear ks ko
    by_cases hlk : k < n
    case neg =>
      have HE1 : Hid (t = volOf xs us) := by rw [unhide HT1, List.take_of_length_le (by omega)]; rfl
      have HE2 : Hid (g = gramOf xs us) := by rw [unhide HT2, List.take_of_length_le (by omega)]; rfl
      clear ht hg hb
      have cl0 : wr.cell? ⟨w.heap.size + 1, 0, none⟩ = some (.int .i64 t) := ((unhide Kswr) 0 (by simp)).1
      have cl1 : wr.cell? ⟨w.heap.size + 1, 1, none⟩ = some (.int .i64 g) := ((unhide Kswr) 1 (by simp)).1
      have cs0 : wr.cell? ⟨w.heap.size, 0, none⟩ = some (.int .i64 0) := ((unhide Kowr) 0 (by simp)).1
      have cs1 : wr.cell? ⟨w.heap.size, 1, none⟩ = some (.int .i64 0) := ((unhide Kowr) 1 (by simp)).1
      have fs0 : wr.frozen? ⟨w.heap.size, 0, none⟩ = false := ((unhide Kowr) 0 (by simp)).2
      have fs1 : wr.frozen? ⟨w.heap.size, 1, none⟩ = false := ((unhide Kowr) 1 (by simp)).2
      go_wp2
      have hk2 := Blk.fill2 (x := .int .i64 t) (y := .int .i64 g) (unhide Kowr)
      have hB2 := ((unhide Bwr).setCell (p := ⟨w.heap.size, 0, none⟩) (Nat.le_refl _) (.int .i64 t)).setCell (p := ⟨w.heap.size, 1, none⟩) (Nat.le_refl _) (.int .i64 g)
      generalize ((wr.setCell ⟨w.heap.size, 0, none⟩ (.int .i64 t)).setCell ⟨w.heap.size, 1, none⟩ (.int .i64 g)) = X at *
      have k0 := (hk2 0 (by simp)).1
      have k1 := (hk2 1 (by simp)).1
      refine bodyPost_ret (v := .agg #[.int .i64 t, .int .i64 g]) (by simp [results, Tryz.results71, go_sem, k0, k1]) rfl ?_
      exact ⟨ret_bulk (unhide HE1) (unhide HE2), hB2⟩
    obtain ⟨b, off, hua, hc⟩ := ((unhide HU).mono hb).2 k hlk
    have hku : k < us.length := by omega
    have htb := sumTo_bd (volAt xs) 8000000000 (by omega) (volAt_bd xs) us k (by omega)
    rw [← ht] at htb
    have hgb := sumTo_bd (gramAt xs) 100000 (by omega) (gramAt_bd xs hgd) us k (by omega)
    rw [← hg] at hgb
    have HS1 := hide (sumTo_step (volAt xs) us k hku)
    have HS2 := hide (sumTo_step (gramAt xs) us k hku)
    obtain ⟨v, hv, hvN⟩ := (unhide HIN) k hlk
    rw [hv] at hc HS1 HS2
    have hea2 := hea (by omega)
    subst hua
    subst hea2
    have Kpwr := hide (Blk.below hb hbk (unhide HK))
    have Zpwr := Nat.lt_of_lt_of_le hbk hb.size
    obtain ⟨e0, e1⟩ := (unhide HE).2 v hvN
    have helt := (unhide HE).1
    have hxb := volAt_bd xs (v : Int)
    have hyb := gramAt_bd xs hgd (v : Int)
    generalize volAt xs (v : Int) = vU at *
    generalize gramAt xs (v : Int) = gU at *
    have he0 : ∀ x, Below w.heap.size w x → x.cell? ⟨eb, v * 2, none⟩ = some (.int .i64 vU) := fun x hb => (hb.cell (p := ⟨eb, v * 2, none⟩) helt).trans e0
    have he1 : ∀ x, Below w.heap.size w x → x.cell? ⟨eb, v * 2 + 1, none⟩ = some (.int .i64 gU) := fun x hb => (hb.cell (p := ⟨eb, v * 2 + 1, none⟩) helt).trans e1
    have HBD : Hid (0 ≤ t ∧ t ≤ 8388800000000000 ∧ 0 ≤ g ∧ g ≤ 104860000000 ∧ 0 ≤ vU ∧ vU ≤ 8000000000 ∧ 0 ≤ gU ∧ gU ≤ 100000) := ⟨by omega, by omega, by omega, by omega, by omega, by omega, by omega, by omega⟩
    have Gs : w.heap.size ≤ w.heap.size + 1 := by omega
    have Go : w.heap.size ≤ w.heap.size := Nat.le_refl _
    have Nqps : Bk ≠ w.heap.size + 1 := by omega
    have Nqpo : Bk ≠ w.heap.size := by omega
    have Nqos : w.heap.size ≠ w.heap.size + 1 := by omega
    have Nqso : w.heap.size + 1 ≠ w.heap.size := by omega
    clear ht hg htb hgb hxb hyb e0 e1 hv hb
    go_upto_region 5 with fail
    clear hc
    refine wp_region_noPanic ?_
    have Bu0 : Hid (Below w.heap.size w wr.drew) := (unhide Bwr).drew
    have Kpu0 : Hid (Blk wr.drew Bk [.slice (some ⟨eb, 0, none⟩) N ecap, c1, c2, c3, c4]) := unhide Kpwr
    have Zpu0 : Bk < wr.drew.heap.size := Zpwr
    have Ksu0 : Hid (Blk wr.drew (w.heap.size + 1) [.int .i64 t, .int .i64 g]) := unhide Kswr
    have Zsu0 : (w.heap.size + 1) < wr.drew.heap.size := Zswr
    have Kou0 : Hid (Blk wr.drew w.heap.size [.int .i64 0, .int .i64 0]) := unhide Kowr
    have Zou0 : w.heap.size < wr.drew.heap.size := Zowr
    obtain ⟨S, hSdef⟩ : ∃ S : World → Prop, S = (fun w' => w'.cell? ⟨Bk, 0, none⟩ = some (.slice (some ⟨eb, 0, none⟩) N ecap) ∧ w'.cell? ⟨(w.heap.size + 1), 0, none⟩ = some (.int .i64 t) ∧ w'.cell? ⟨(w.heap.size + 1), 1, none⟩ = some (.int .i64 g) ∧ w'.cell? ⟨eb, v * 2, none⟩ = some (.int .i64 vU) ∧ w'.cell? ⟨eb, v * 2 + 1, none⟩ = some (.int .i64 gU)) := ⟨_, rfl⟩
    have hSmk : ∀ wq, Blk wq Bk [.slice (some ⟨eb, 0, none⟩) N ecap, c1, c2, c3, c4] → Blk wq (w.heap.size + 1) [.int .i64 t, .int .i64 g] → (wq.cell? ⟨eb, v * 2, none⟩ = some (.int .i64 vU)) → (wq.cell? ⟨eb, v * 2 + 1, none⟩ = some (.int .i64 gU)) → S wq := fun wq kp ks p0 p1 => by rw [hSdef]; exact ⟨(kp 0 (by simp)).1, (ks 0 (by simp)).1, (ks 1 (by simp)).1, p0, p1⟩
    have hSd : ∀ wq, S wq → (fun w' => w'.cell? ⟨Bk, 0, none⟩ = some (.slice (some ⟨eb, 0, none⟩) N ecap) ∧ w'.cell? ⟨(w.heap.size + 1), 0, none⟩ = some (.int .i64 t) ∧ w'.cell? ⟨(w.heap.size + 1), 1, none⟩ = some (.int .i64 g) ∧ w'.cell? ⟨eb, v * 2, none⟩ = some (.int .i64 vU) ∧ w'.cell? ⟨eb, v * 2 + 1, none⟩ = some (.int .i64 gU)) wq := fun wq h => by rw [hSdef] at h; exact h
    clear hSdef
    have hHeld : S wr.drew := hSmk wr.drew (unhide Kpu0) (unhide Ksu0) (he0 _ (unhide Bu0)) (he1 _ (unhide Bu0))
    refine wp_region_to (S := S) (T := [9]) (by kernel_rfl) hHeld (fun _ => ?_)
    generalize wr.drew = u0 at *
    refine wpTo_tk (i := 0) (v := ?_) rfl (by kernel_rfl) (Or.inl ⟨by rfl, ?_⟩) (by assumption) ?_
    rotate_left
    · intro w hSw
      have hSw := hSd _ hSw
      (try dsimp only at hSw)
      go_simp <;> with_reducible rfl
    refine wpTo_tk (i := 1) (v := ?_) rfl (by kernel_rfl) (Or.inl ⟨by rfl, ?_⟩) (by assumption) ?_
    rotate_left
    · intro w hSw
      have hSw := hSd _ hSw
      (try dsimp only at hSw)
      go_simp <;> with_reducible rfl
    refine wpTo_tk (i := 2) (v := ?_) rfl (by kernel_rfl) (Or.inl ⟨by rfl, ?_⟩) (by assumption) ?_
    rotate_left
    · intro w hSw
      have hSw := hSd _ hSw
      (try dsimp only at hSw)
      go_simp <;> with_reducible rfl
    try simp only [Act.put, List.getElem_toArray, List.getElem_cons_zero, List.getElem_cons_succ, List.setIfInBounds_toArray, List.set_cons_zero, List.set_cons_succ]
    refine wpTo_tk (i := 3) (v := ?_) rfl (by kernel_rfl) (Or.inl ⟨by rfl, ?_⟩) (by assumption) ?_
    rotate_left
    · intro w hSw
      have hSw := hSd _ hSw
      (try dsimp only at hSw)
      go_simp <;> with_reducible rfl
    refine wpTo_tk (i := 4) (v := ?_) rfl (by kernel_rfl) (Or.inl ⟨by rfl, ?_⟩) (by assumption) ?_
    rotate_left
    · intro w hSw
      have hSw := hSd _ hSw
      (try dsimp only at hSw)
      go_simp <;> with_reducible rfl
    refine wpTo_tk (i := 5) (v := ?_) rfl (by kernel_rfl) (Or.inl ⟨by rfl, ?_⟩) (by assumption) ?_
    rotate_left
    · intro w hSw
      have hSw := hSd _ hSw
      (try dsimp only at hSw)
      go_simp <;> with_reducible rfl
    try simp only [Act.put, List.getElem_toArray, List.getElem_cons_zero, List.getElem_cons_succ, List.setIfInBounds_toArray, List.set_cons_zero, List.set_cons_succ]
    refine wpTo_tk (i := 6) (v := ?_) rfl (by kernel_rfl) (Or.inl ⟨by rfl, ?_⟩) (by assumption) ?_
    rotate_left
    · intro w hSw
      have hSw := hSd _ hSw
      (try dsimp only at hSw)
      go_simp <;> with_reducible rfl
    refine wpTo_tk (i := 7) (v := ?_) rfl (by kernel_rfl) (Or.inl ⟨by rfl, ?_⟩) (by assumption) ?_
    rotate_left
    · intro w hSw
      have hSw := hSd _ hSw
      (try dsimp only at hSw)
      go_simp <;> with_reducible rfl
    try simp only [Act.put, List.getElem_toArray, List.getElem_cons_zero, List.getElem_cons_succ, List.setIfInBounds_toArray, List.set_cons_zero, List.set_cons_succ]
    refine wpTo_ready (rs := [8]) (by kernel_rfl) (by simp) ?_
    refine AllTo.cons (o := _) rfl (fun K hK => ?_) ?_
    ·
     (try simp only [List.getElem_toArray, List.getElem_cons_zero, List.getElem_cons_succ])
     go_simp
     refine (with_any t g vU gU _ (by have := unhide HBD; omega) (by have := unhide HBD; omega) (by have := unhide HBD; omega) (by have := unhide HBD; omega)).mono ?_
     rintro e u1 ⟨rfl, hb⟩
     have Bu1 := hide ((unhide Bu0).trans (hb.mono (unhide Bu0).size))
     have Kpu1 := hide (Blk.below hb Zpu0 (unhide Kpu0))
     have Zpu1 := Nat.lt_of_lt_of_le Zpu0 hb.size
     have Ksu1 := hide (Blk.below hb Zsu0 (unhide Ksu0))
     have Zsu1 := Nat.lt_of_lt_of_le Zsu0 hb.size
     have Kou1 := hide (Blk.below hb Zou0 (unhide Kou0))
     have Zou1 := Nat.lt_of_lt_of_le Zou0 hb.size
     clear hb
     clear Bu0 Kpu0 Zpu0 Ksu0 Zsu0 Kou0 Zou0
     clear hHeld
     go_wp2_with fail
     have hHeld := hSmk u1 (unhide Kpu1) (unhide Ksu1) (he0 _ (unhide Bu1)) (he1 _ (unhide Bu1))
     refine hK.out _ _ (fun _ => hHeld) ?_
     clear hK K
     try simp only [Act.put, List.getElem_toArray, List.getElem_cons_zero, List.getElem_cons_succ, List.setIfInBounds_toArray, List.set_cons_zero, List.set_cons_succ]
     refine wpTo_ready (rs := [9]) (by kernel_rfl) (by simp) ?_
     refine AllTo.cons (o := _) rfl (fun K hK => ?_) ?_
     ·
      (try simp only [List.getElem_toArray, List.getElem_cons_zero, List.getElem_cons_succ])
      have p0 := ((unhide Ksu1) 0 (by simp)).1
      have q0 := ((unhide Ksu1) 0 (by simp)).2
      have p1 := ((unhide Ksu1) 1 (by simp)).1
      have q1 := ((unhide Ksu1) 1 (by simp)).2
      go_simp
      clear p0 q0 p1 q1
      have Bu2 : Hid (Below w.heap.size w ((u1.setCell ⟨(w.heap.size + 1), 0, none⟩ (.int .i64 (t + vU))).setCell ⟨(w.heap.size + 1), 1, none⟩ (.int .i64 (g + gU)))) := (((unhide Bu1).setCell Gs _).setCell Gs _)
      have Ksu2 : Hid (Blk ((u1.setCell ⟨(w.heap.size + 1), 0, none⟩ (.int .i64 (t + vU))).setCell ⟨(w.heap.size + 1), 1, none⟩ (.int .i64 (g + gU))) (w.heap.size + 1) [.int .i64 (t + vU), .int .i64 (g + gU)]) := Blk.fill2 (unhide Ksu1)
      have Zsu2 : (w.heap.size + 1) < ((u1.setCell ⟨(w.heap.size + 1), 0, none⟩ (.int .i64 (t + vU))).setCell ⟨(w.heap.size + 1), 1, none⟩ (.int .i64 (g + gU))).heap.size := by simpa using Zsu1
      have Kpu2 : Hid (Blk ((u1.setCell ⟨(w.heap.size + 1), 0, none⟩ (.int .i64 (t + vU))).setCell ⟨(w.heap.size + 1), 1, none⟩ (.int .i64 (g + gU))) Bk [.slice (some ⟨eb, 0, none⟩) N ecap, c1, c2, c3, c4]) := (((unhide Kpu1).other Nqps).other Nqps)
      have Zpu2 : Bk < ((u1.setCell ⟨(w.heap.size + 1), 0, none⟩ (.int .i64 (t + vU))).setCell ⟨(w.heap.size + 1), 1, none⟩ (.int .i64 (g + gU))).heap.size := by simpa using Zpu1
      have Kou2 : Hid (Blk ((u1.setCell ⟨(w.heap.size + 1), 0, none⟩ (.int .i64 (t + vU))).setCell ⟨(w.heap.size + 1), 1, none⟩ (.int .i64 (g + gU))) w.heap.size [.int .i64 0, .int .i64 0]) := (((unhide Kou1).other Nqos).other Nqos)
      have Zou2 : w.heap.size < ((u1.setCell ⟨(w.heap.size + 1), 0, none⟩ (.int .i64 (t + vU))).setCell ⟨(w.heap.size + 1), 1, none⟩ (.int .i64 (g + gU))).heap.size := by simpa using Zou1
      clear hHeld
      clear Bu1 Kpu1 Zpu1 Ksu1 Zsu1 Kou1 Zou1
      generalize ((u1.setCell ⟨(w.heap.size + 1), 0, none⟩ (.int .i64 (t + vU))).setCell ⟨(w.heap.size + 1), 1, none⟩ (.int .i64 (g + gU))) = u2 at *
      refine hK.out _ _ (fun hn => absurd (by decide) hn) ?_
      clear hK K
      try simp only [Act.put, List.getElem_toArray, List.getElem_cons_zero, List.getElem_cons_succ, List.setIfInBounds_toArray, List.set_cons_zero, List.set_cons_succ]
      refine wpTo_done (by kernel_rfl) ?_ _
      refine NoPanic.normal ?_
      go_wp2
      go_roundw
      case rel => exact ⟨k + 1, t + vU, g + gU, by omega, by go_num, by rw [unhide HS1, unhide HT1], by rw [unhide HS2, unhide HT2], unhide Ksu2, Zsu2, unhide Kou2, Zou2, unhide Bu2⟩
      case measure => simp [intOf]; omega
     exact AllTo.nil
    exact AllTo.nil
end Go.Proofs.YtdmaldjnjffnlabGreatDoor
