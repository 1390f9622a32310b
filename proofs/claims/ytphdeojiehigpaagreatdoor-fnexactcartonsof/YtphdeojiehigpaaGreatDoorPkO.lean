/- NextImpl, PackerOf, PackNext: one text. -/
import Derived.Test.YtphdeojiehigpaaGreatDoorPutFrom
import Derived.Deep.DeepMust
import Derived.Deep.DeepCutAuto
import Derived.Test.YtphdeojiehigpaaGreatDoorUnitsImpl
import Derived.Deep.RegionHeld3
import Derived.Laws.EntriesVeiled
/- Next fit of the program. -/
namespace Go.Proofs.YtphdeojiehigpaaGreatDoor
open Go Go.RowKit
set_option linter.unusedVariables false
set_option linter.unusedSimpArgs false

theorem ci_snoc (l : List Int) (x : Int) : ci (l ++ [x]) = ci l ++ [.int .i64 x] := by simp [ci]
set_option maxHeartbeats 2000000 in
theorem there_any (xs : List ItemV) (Bk N ecap : Nat) (ea : Option Addr) (c1 c2 c3 c4 : Value) (a : Option Addr) (n c : Nat) (us : List Int) (w : World) (hk : Blk w Bk [.slice ea N ecap, c1, c2, c3, c4]) (hbk : Bk < w.heap.size) (hN : N = (unitsL xs).length) (hN12 : N ≤ 1000) (hu : Rd w a n us) (hn : n ≤ 1048600) :
    Calls Tryz.prog 142 #[.pointer (some ⟨Bk, 0, none⟩), .slice a n c] w fun e w' => ∃ g cap, e = .returned (.slice (some ⟨g, 0, none⟩) (knownL xs us).length cap) ∧ w'.ownsRow w.heap.size 3 1 (.slice (some ⟨g, 0, none⟩) (knownL xs us).length cap) (knownL xs us).length (ci (knownL xs us)) ∧ Below w.heap.size w w' := by
  obtain ⟨i0, hi, hz0, hz1, hz2⟩ := info_parts Tryz.infoInts
  have HK := hide hk
  have HU := hide hu
  have HN := hide hN
  clear hk hu hN
  go_enter Tryz.func142, Tryz.ntmps142
  go_wp2
  have O1 := hide (own_lit0 (e := 3) (size := 1) w (Nat.le_refl _))
  have B1 : Hid (Below w.heap.size w (w.alloc (.cells #[] 3))) := (Below.refl _ _).alloc (Nat.le_refl _) _
  generalize (w.alloc (.cells #[] 3)) = w1 at *
  go_loopw [5, 11] (fun o i wr => ∃ (k g cap m : Nat), k ≤ n ∧ i = .int .i64 k ∧ m = (knownTo xs us k).length ∧ o = .slice (some ⟨g, 0, none⟩) m cap ∧ wr.ownsRow w.heap.size 3 1 (.slice (some ⟨g, 0, none⟩) m cap) m (ci (knownTo xs us k)) ∧ Below w.heap.size w wr) (fun _ i _ => n - (intOf i).toNat)
  case atStart => exact ⟨0, w.heap.size, 0, 0, Nat.zero_le _, rfl, rfl, rfl, unhide O1, unhide B1⟩
  case round =>
    clear O1 B1
    obtain ⟨k, g, cap, m, hk, rfl, hm, rfl, hown, hbel⟩ := hrel
    have HM := hide hm
    have HO := hide hown
    have HB := hide hbel
    by_cases hlk : k < n
    case neg =>
      have HE : Hid (knownTo xs us k = knownL xs us) := knownTo_all (by rw [HU.out.1]; omega)
      clear hm hown hbel
      go_wp2
      go_ret
      have e := unhide HE
      have hm := unhide HM
      rw [e] at hm
      subst hm
      exact ⟨g, cap, rfl, by have := unhide HO; rwa [e] at this, unhide HB⟩
    obtain ⟨b, off, hua, hc⟩ := (HU.out.mono hbel).2 k hlk
    have hku : k < us.length := by rw [HU.out.1]; exact hlk
    have HHIT := hide (knownTo_hit (xs := xs) hku)
    have HMIS := hide (knownTo_miss (xs := xs) hku)
    have hmk : m ≤ 1048600 := by have := (knownTo_len xs us k).1; omega
    generalize us.getD k 0 = x at hc HHIT HMIS
    subst hua
    have c0 : wr.cell? ⟨Bk, 0, none⟩ = some (.slice ea N ecap) := (hbel.cell (p := ⟨Bk, 0, none⟩) hbk).trans (HK.out 0 (by simp)).1
    have hgl := (hown.lt g rfl)
    have hz : w.heap.size ≤ wr.heap.size := hbel.size
    clear hm hown hbel
    go_wp2_with fail
    refine (within_any _ _ _ _).mono ?_
    rintro e w2 ⟨rfl, hw⟩
    subst w2
    have HKN : Hid (knownB xs x = inB x 0 ((N : Int) - 1)) := by rw [Hid, unhide HN]; rfl
    cases hkn : inB x 0 ((N : Int) - 1)
    case false =>
      have HG2 := hide (HMIS.out (by rw [unhide HKN]; exact hkn))
      clear hkn
      go_wp2_with fail
      go_roundw
      case rel => exact ⟨k + 1, g, cap, m, by omega, by go_num, by rw [unhide HG2]; exact unhide HM, rfl, by rw [unhide HG2]; exact unhide HO, unhide HB⟩
      case measure => simp [intOf]; omega
    case true =>
      have HG2 := hide (HHIT.out (by rw [unhide HKN]; exact hkn))
      clear hkn
      have O3 := hide (HO.out.alloc (.cells #[.int .i64 x] 3))
      go_wp2_with (first
        | (at_builtin; refine wpList_append_lies _ rfl _ _ 29 rfl w.heap.size 3 i0 (.int .i64 0) 1 8 Tryz.underlying29 hi hz0 hz1 hz2 rfl (by omega) (.slice (some ⟨g, 0, none⟩) m cap) m (ci (knownTo xs us k)) rfl O3.out ⟨wr.heap.size, 0, none⟩ 1 1 [.int .i64 x] rfl rfl (World.news_of_block (heap_alloc_new _ _)) (by simp [Value.oneCell']) (by omega) (by unfold maxLen; omega) (by omega) (by simp; omega) (wr.heap.size + 1) (by simp) ?_; intro g3 cap3 w3 ho3 hg3 hat3 hlt3)
        | fail)
      have B4 : Hid (Below w.heap.size w w3) := (HB.out.alloc hz (.cells #[.int .i64 x] 3)).grown hg3 (by simp; omega) (fun q hq => by simp [Value.ownBlock] at hq; omega)
      have O4 : Hid (w3.ownsRow w.heap.size 3 1 (.slice (some ⟨g3, 0, none⟩) (m + 1) cap3) (m + 1) (ci (knownTo xs us k ++ [x]))) := by rw [ci_snoc]; exact ho3
      clear ho3 hg3 hat3 hlt3
      go_roundw
      case rel => exact ⟨k + 1, g3, cap3, m + 1, by omega, by go_num, by rw [unhide HG2, List.length_append, ← unhide HM]; rfl, rfl, by rw [unhide HG2]; exact unhide O4, unhide B4⟩
      case measure => simp [intOf]; omega

set_option maxHeartbeats 2000000 in
theorem nextFitRun_any (xs : List ItemV) (t : TypeV) (Bk eb N ecap : Nat) (a : Option Addr) (n c : Nat) (us : List Int) (w : World) (hok : PkOk xs t w.heap.size Bk eb N ecap [] w) (hu : Rd w a n us) (hub : ∀ x, a = some x → x.block < w.heap.size ∧ x.block ≠ Bk) (hin : ∀ k, k < n → ∃ v : Nat, us.getD k 0 = v ∧ v < N) (hgd : ∀ q ∈ xs, 1 ≤ q.gram ∧ q.gram ≤ 100000) (hn : n ≤ 1048590) :
    Calls Tryz.prog 140 #[.pointer (some ⟨Bk, 0, none⟩), .slice a n c] w fun e w' => e = .returned (.tuple #[]) ∧ PkOk xs t w.heap.size Bk eb N ecap (nextTo (roomB xs t) us n) w' ∧ Fr w.heap.size Bk w w' := by
  have HOK := hide hok
  have HU := hide hu
  clear hok hu
  go_enter Tryz.func140, Tryz.ntmps140
  go_wp2
  go_loopw [8] (fun i wr => ∃ k : Nat, k ≤ n ∧ i = .int .i64 k ∧ PkOk xs t w.heap.size Bk eb N ecap (nextTo (roomB xs t) us k) wr ∧ Fr w.heap.size Bk w wr) (fun i _ => n - (intOf i).toNat)
  case atStart => exact ⟨0, Nat.zero_le _, rfl, unhide HOK, Fr.refl _ _ _⟩
  case round =>
    clear HOK
    obtain ⟨k, hk, rfl, hpk, hfr⟩ := hrel
    have HP := hide hpk
    have HF := hide hfr
    by_cases hlk : k < n
    case neg =>
      obtain rfl : k = n := by omega
      clear hpk hfr
      go_wp2
      first | go_end0 | refine bodyPost_ret (results_none rfl _ _ _) rfl ?_
      exact ⟨rfl, unhide HP, unhide HF⟩
    obtain ⟨b, off, hua, hc⟩ := (HU.out.fr hfr hub).2 k hlk
    have hku : k < us.length := by rw [HU.out.1]; exact hlk
    obtain ⟨v, hv, hvN⟩ := hin k hlk
    have HST := hide (nextTo_step (roomB xs t) us k hku)
    have htt := nextTo_tot (roomB xs t) us k (by omega)
    rw [hv] at HST hc
    subst hua
    generalize nextTo (roomB xs t) us k = gs at *
    obtain ⟨ca, cc, rows, c3, _, _⟩ := hpk.out
    have hg9 : gs.length ≤ 1048590 := by omega
    have ht9 : tot2 gs ≤ 1048590 := by omega
    clear hpk hfr hv
    have HNX := hide (fun p (h : FoundAt (roomB xs t) gs (v : Int) (gs.length - 1) p) => h.next)
    have HCALL := hide (fun (z : Int) (hz : z = ((gs.length - 1 : Nat) : Int)) => show Calls Tryz.prog 181 #[.pointer (some ⟨Bk, 0, none⟩), .int .i64 z, .int .i64 (v : Int)] wr _ from by subst hz; exact putFrom_any xs t w.heap.size Bk eb N ecap (gs.length - 1) v gs wr HP.out (by omega) hvN hgd ht9 hg9)
    clear ht9 htt
    go_wp2_with fail
    all_goals
      refine (HCALL.out _ (by omega)).mono ?_
      rintro e w2 ⟨p, rfl, hfo, hp2, hf2⟩
      have HFO := hide (HNX.out p hfo)
      have HP2 := hide hp2
      have HF2 := hide (HF.out.trans hf2)
      clear hfo hp2 hf2 HCALL
      go_wp2_with fail
      go_roundw
      case rel => exact ⟨k + 1, by omega, by go_num, by rw [unhide HST, nextStep, unhide HFO]; exact unhide HP2, unhide HF2⟩
      case measure => simp [intOf]; omega
end Go.Proofs.YtphdeojiehigpaaGreatDoor

/- The packer of an order; next fit. -/
namespace Go.Proofs.YtphdeojiehigpaaGreatDoor
open Go Go.RowKit
set_option linter.unusedVariables false
set_option linter.unusedSimpArgs false

def bulksTo (xs : List ItemV) (k : Nat) : List BulkV := (List.range k).map fun (i : Nat) => ⟨volAt xs i, gramAt xs i⟩
theorem bulksTo_step (xs : List ItemV) (k : Nat) : bulksTo xs (k + 1) = bulksTo xs k ++ [⟨volAt xs k, gramAt xs k⟩] := by simp [bulksTo, List.range_succ]
theorem bulksTo_len (xs : List ItemV) (k : Nat) : (bulksTo xs k).length = k := by simp [bulksTo]
theorem bulksTo_at (xs : List ItemV) (N i : Nat) (h : i < N) : (bulksTo xs N).getD i default = ⟨volAt xs i, gramAt xs i⟩ := by simp [bulksTo, List.getD_eq_getElem?_getD, h]
theorem vol_one (xs : List ItemV) (u : Int) : volOf xs [u] = volAt xs u := by simp [volOf]
theorem gram_one (xs : List ItemV) (u : Int) : gramOf xs [u] = gramAt xs u := by simp [gramOf]
theorem each_of {w : World} {base N cap : Nat} {ea : Option Addr} {xs : List ItemV} (h : w.ownsRow base 126 2 (.slice ea N cap) N ((bulksTo xs N).flatMap BulkV.cells)) {g0 : Nat} (hg0 : g0 < w.heap.size) : ∃ eb, (0 < N → ea = some ⟨eb, 0, none⟩) ∧ EachOk w eb N xs ∧ (eb = g0 ∨ base ≤ eb) := by
  by_cases hN : 0 < N
  · obtain ⟨g, rfl⟩ := own_formV h hN
    refine ⟨g, fun _ => rfl, ⟨(h.lt g rfl).2, fun i hi => ?_⟩, .inr (h.lt g rfl).1⟩
    have h1 := bulks_at (bulksTo xs N) i (by rw [bulksTo_len]; exact hi)
    rw [bulksTo_at xs N i hi] at h1
    exact ⟨(h.cellAt (i * 2) (by omega)).trans h1.1, (h.cellAt (i * 2 + 1) (by omega)).trans h1.2⟩
  · exact ⟨g0, fun h => absurd h hN, ⟨hg0, fun i hi => by omega⟩, .inl rfl⟩

set_option maxRecDepth 100000 in
set_option maxHeartbeats 4000000 in
theorem masterMost_any (r : ReqV) (h : ReqH) (w : World) (hr : RdReq w r h) (htl : r.types.length ≤ 1048600) :
    Calls Tryz.prog 182 #[reqVal r h] w fun e w' => e = .returned (.agg #[.int .i64 (vol (masterV r).wd (masterV r).ht (masterV r).dp), .int .i64 (masterV r).gram]) ∧ Below w.heap.size w w' := by
  have HR := hide hr
  clear hr
  unfold reqVal
  go_enter Tryz.func182, Tryz.ntmps182
  go_wp2_with fail
  generalize hW : ((w.alloc (.cells #[.int .i64 r.way, .int .i64 r.pal.wd, .int .i64 r.pal.dp, .int .i64 r.pal.ht, .int .i64 r.pal.gram, .int .i64 r.classes, .slice h.ap r.pairs.length h.cp, .slice h.at' r.types.length h.ct, .int .i64 r.master, .slice h.ai r.items.length h.ci] 40)).alloc (.cells #[.int .i64 0, .int .i64 0] 126)) = W at *
  obtain ⟨BW, KaW, ZaW, KsW, ZsW⟩ := en2 hW
  have Ga : w.heap.size ≤ w.heap.size := by omega
  have Gs : w.heap.size ≤ (w.heap.size + 1) := by omega
  have Nqas : w.heap.size ≠ (w.heap.size + 1) := by omega
  have Nqsa : (w.heap.size + 1) ≠ w.heap.size := by omega
  clear hW
  refine (masterOf_any r h _ (HR.out.mono BW.out) htl).mono ?_
  rintro e v1 ⟨rfl, hb⟩
  have Bv1 := hide (BW.out.trans (hb.mono BW.out.size))
  have Kav1 := hide (Blk.below hb ZaW KaW.out)
  have Zav1 := Nat.lt_of_lt_of_le ZaW hb.size
  have Ksv1 := hide (Blk.below hb ZsW KsW.out)
  have Zsv1 := Nat.lt_of_lt_of_le ZsW hb.size
  clear hb
  clear BW KaW ZaW KsW ZsW
  go_wp2_with fail
  generalize hW : (v1.alloc (.cells #[.int .i64 (masterV r).id, .int .i64 (masterV r).wd, .int .i64 (masterV r).ht, .int .i64 (masterV r).dp, .int .i64 (masterV r).tare, .int .i64 (masterV r).gram, .int .i64 (masterV r).cost] 55)) = v2 at *
  obtain ⟨hb, Ktv2, Ztv2⟩ := en1 hW
  have hb := unhide hb
  have Bv2 := hide (Bv1.out.trans (hb.mono Bv1.out.size))
  have Gt : w.heap.size ≤ v1.heap.size := Bv1.out.size
  have Kav2 := hide (Blk.below hb Zav1 Kav1.out)
  have Zav2 := Nat.lt_of_lt_of_le Zav1 hb.size
  have Ksv2 := hide (Blk.below hb Zsv1 Ksv1.out)
  have Zsv2 := Nat.lt_of_lt_of_le Zsv1 hb.size
  have Nqat : w.heap.size ≠ v1.heap.size := Nat.ne_of_lt Zav1
  have Nqta := Ne.symm Nqat
  have Nqst : (w.heap.size + 1) ≠ v1.heap.size := Nat.ne_of_lt Zsv1
  have Nqts := Ne.symm Nqst
  clear hb hW
  clear Bv1 Kav1 Zav1 Ksv1 Zsv1
  refine (mostOf_any (masterV r) _).mono ?_
  rintro e v3 ⟨rfl, hb⟩
  have Bv3 := hide (Bv2.out.trans (hb.mono Bv2.out.size))
  have Kav3 := hide (Blk.below hb Zav2 Kav2.out)
  have Zav3 := Nat.lt_of_lt_of_le Zav2 hb.size
  have Ksv3 := hide (Blk.below hb Zsv2 Ksv2.out)
  have Zsv3 := Nat.lt_of_lt_of_le Zsv2 hb.size
  have Ktv3 := hide (Blk.below hb Ztv2 Ktv2.out)
  have Ztv3 := Nat.lt_of_lt_of_le Ztv2 hb.size
  clear hb
  clear Bv2 Kav2 Zav2 Ksv2 Zsv2 Ktv2 Ztv2
  have cs0 : v3.cell? ⟨(w.heap.size + 1), 0, none⟩ = some (.int .i64 0) := (Ksv3.out 0 (by simp)).1
  have fs0 : v3.frozen? ⟨(w.heap.size + 1), 0, none⟩ = false := (Ksv3.out 0 (by simp)).2
  have cs1 : v3.cell? ⟨(w.heap.size + 1), 1, none⟩ = some (.int .i64 0) := (Ksv3.out 1 (by simp)).1
  have fs1 : v3.frozen? ⟨(w.heap.size + 1), 1, none⟩ = false := (Ksv3.out 1 (by simp)).2
  go_wp2
  have hk2 := Blk.fill2 (x := .int .i64 (vol (masterV r).wd (masterV r).ht (masterV r).dp)) (y := .int .i64 (masterV r).gram) Ksv3.out
  have hB2 := (Bv3.out.setCell (p := ⟨(w.heap.size + 1), 0, none⟩) Gs (.int .i64 (vol (masterV r).wd (masterV r).ht (masterV r).dp))).setCell (p := ⟨(w.heap.size + 1), 1, none⟩) Gs (.int .i64 (masterV r).gram)
  generalize ((v3.setCell ⟨(w.heap.size + 1), 0, none⟩ (.int .i64 (vol (masterV r).wd (masterV r).ht (masterV r).dp))).setCell ⟨(w.heap.size + 1), 1, none⟩ (.int .i64 (masterV r).gram)) = X at *
  have k0 := (hk2 0 (by simp)).1
  have k1 := (hk2 1 (by simp)).1
  refine bodyPost_ret (v := .agg #[.int .i64 (vol (masterV r).wd (masterV r).ht (masterV r).dp), .int .i64 (masterV r).gram]) (by simp [results, Tryz.results182, go_sem, k0, k1]) rfl ?_
  exact ⟨rfl, hB2⟩

set_option maxRecDepth 100000 in
set_option maxHeartbeats 4000000 in
theorem packerOf_any (r : ReqV) (h : ReqH) (w : World) (hr : RdReq w r h) (hs : r.small) (hg : ErrT w) :
    Calls Tryz.prog 141 #[reqVal r h] w fun e w' => ∃ Bk eb ecap, ∃ ea, e = .returned (.pointer (some ⟨Bk, 0, none⟩)) ∧ w.heap.size ≤ Bk ∧ Bk < w'.heap.size ∧ Blk w' Bk [.slice ea (unitsR r).length ecap, .int .i64 (vol (masterV r).wd (masterV r).ht (masterV r).dp), .int .i64 (masterV r).gram, .slice none 0 0, .slice none 0 0] ∧ (0 < (unitsR r).length → ea = some ⟨eb, 0, none⟩) ∧ EachOk w' eb (unitsR r).length (itemsR r) ∧ eb ≠ Bk ∧ Below w.heap.size w w' := by
  obtain ⟨k0, hk0, hx0, hx1, hx2⟩ := info_parts Tryz.infoBulk
  have htl : r.types.length ≤ 1048600 := by unfold ReqV.small at hs; omega
  have HR := hide hr
  have HG := hide hg
  clear hr hg
  unfold reqVal
  go_enter Tryz.func141, Tryz.ntmps141
  go_wp2_with fail
  generalize hW : (w.alloc (.cells #[.int .i64 r.way, .int .i64 r.pal.wd, .int .i64 r.pal.dp, .int .i64 r.pal.ht, .int .i64 r.pal.gram, .int .i64 r.classes, .slice h.ap r.pairs.length h.cp, .slice h.at' r.types.length h.ct, .int .i64 r.master, .slice h.ai r.items.length h.ci] 40)) = W at *
  obtain ⟨BW, KaW, ZaW⟩ := en1 hW
  have Ga : w.heap.size ≤ w.heap.size := by omega
  clear hW
  refine (masterMost_any r h _ (HR.out.mono BW.out) htl).mono ?_
  rintro e v1 ⟨rfl, hb⟩
  have Bv1 := hide (BW.out.trans (hb.mono BW.out.size))
  have Kav1 := hide (Blk.below hb ZaW KaW.out)
  have Zav1 := Nat.lt_of_lt_of_le ZaW hb.size
  clear hb
  clear BW KaW ZaW
  obtain ⟨ca0, ca1, ca2, ca3, ca4, ca5, ca6, ca7, ca8, ca9⟩ := Blk.cs10 Kav1.out
  go_wp2_with fail
  clear ca0 ca1 ca2 ca3 ca4 ca5 ca6 ca7 ca8 ca9
  generalize hW : (v1.alloc (.cells #[.slice none 0 0, .int .i64 (vol (masterV r).wd (masterV r).ht (masterV r).dp), .int .i64 (masterV r).gram, .slice none 0 0, .slice none 0 0] 169)) = v2 at *
  obtain ⟨hb, Kpv2, Zpv2⟩ := en1 hW
  have hb := unhide hb
  have Bv2 := hide (Bv1.out.trans (hb.mono Bv1.out.size))
  have Gp : w.heap.size ≤ v1.heap.size := Bv1.out.size
  have Kav2 := hide (Blk.below hb Zav1 Kav1.out)
  have Zav2 := Nat.lt_of_lt_of_le Zav1 hb.size
  have Nqap : w.heap.size ≠ v1.heap.size := Nat.ne_of_lt Zav1
  have Nqpa := Ne.symm Nqap
  clear hb hW
  clear Bv1 Kav1 Zav1
  have HB1 : Hid (v1.heap.size < v2.heap.size) := Zpv2
  refine (units_any r h _ (HR.out.mono Bv2.out) hs (HG.out.later Bv2.out)).mono ?_
  rintro e v3 ⟨gp, cp, rfl, hgo, hb⟩
  have Bv3 := hide (Bv2.out.trans (hb.mono Bv2.out.size))
  have Kav3 := hide (Blk.below hb Zav2 Kav2.out)
  have Zav3 := Nat.lt_of_lt_of_le Zav2 hb.size
  have Kpv3 := hide (Blk.below hb Zpv2 Kpv2.out)
  have Zpv3 := Nat.lt_of_lt_of_le Zpv2 hb.size
  have hszv := hb.size
  clear hb
  clear Bv2 Kav2 Zav2 Kpv2 Zpv2
  have hN12 := unitsR_len r
  clear hgo
  obtain ⟨N, hN⟩ : ∃ N, N = (unitsR r).length := ⟨_, rfl⟩
  rw [← hN] at hN12 ⊢
  have HN := hide hN
  clear hN
  obtain ⟨bs, hbs⟩ : ∃ b, b = v2.heap.size := ⟨_, rfl⟩
  have HBS : Hid (bs ≤ v3.heap.size) := by rw [Hid, hbs]; exact hszv
  have HBW : Hid (w.heap.size ≤ bs) := by rw [Hid, hbs]; have := Gp; have := unhide HB1; omega
  have HBP : Hid (v1.heap.size < bs ∧ w.heap.size < bs) := by rw [hbs]; have := Gp; have := unhide HB1; exact ⟨by omega, by omega⟩
  have HGP : Hid (w.heap.size < v1.heap.size) := by rw [Hid]; have := Gp; have := Nqap; omega
  clear hbs hszv
  generalize v1.heap.size = pb at *
  go_wp2
  go_loopw [12] (fun i wr => ∃ (k ec : Nat) (ea : Option Addr), k ≤ N ∧ i = .int .i64 k ∧ Blk wr pb [.slice ea k ec, .int .i64 (vol (masterV r).wd (masterV r).ht (masterV r).dp), .int .i64 (masterV r).gram, .slice none 0 0, .slice none 0 0] ∧ pb < wr.heap.size ∧ Blk wr w.heap.size [.int .i64 r.way, .int .i64 r.pal.wd, .int .i64 r.pal.dp, .int .i64 r.pal.ht, .int .i64 r.pal.gram, .int .i64 r.classes, .slice h.ap r.pairs.length h.cp, .slice h.at' r.types.length h.ct, .int .i64 r.master, .slice h.ai r.items.length h.ci] ∧ w.heap.size < wr.heap.size ∧ wr.ownsRow bs 126 2 (.slice ea k ec) k ((bulksTo (itemsR r) k).flatMap BulkV.cells) ∧ bs ≤ wr.heap.size ∧ Below w.heap.size w wr) (fun i _ => N - (intOf i).toNat)
  case atStart => exact ⟨0, 0, none, Nat.zero_le _, rfl, unhide Kpv3, Zpv3, unhide Kav3, Zav3, World.ownsRow_nil _ _ _ _, unhide HBS, unhide Bv3⟩
  case round =>
    clear Kpv3 Zpv3 Kav3 Zav3 Bv3 HBS
    obtain ⟨k, ec, ea, hk, rfl, kp, Zpwr, ka, Zawr, ho, hbs, hb⟩ := hrel
    have Bwr := hide hb
    have Kpwr := hide kp
    have Kawr := hide ka
    have QEwr := hide ho
    have QSwr := hide hbs
    clear kp ka ho hb hbs
    by_cases hlk : k < N
    case neg =>
      obtain rfl : k = N := by omega
      obtain ⟨eb, h1, h2, h3⟩ := each_of QEwr.out Zawr
      have HN2 := unhide HN
      have hbp := unhide HBP
      have hgp := unhide HGP
      have H1 := hide h1
      have H2 := hide h2
      clear h1 h2
      go_wp2
      go_ret
      subst HN2
      exact ⟨pb, eb, ec, ea, rfl, by omega, Zpwr, unhide Kpwr, unhide H1, unhide H2, by rcases h3 with h3 | h3 <;> omega, unhide Bwr⟩
    go_upto_region 5 with fail
    refine wp_region_noPanic ?_
    have Bu0 : Hid (Below w.heap.size w wr.drew) := Bwr.out.drew
    have QEu0 : Hid (wr.drew.ownsRow bs 126 2 (.slice ea k ec) k ((bulksTo (itemsR r) k).flatMap BulkV.cells)) := own_laterV QEwr.out (Below.refl _ _).drew
    have QSu0 : Hid (bs ≤ wr.drew.heap.size) := Nat.le_trans QSwr.out (Below.size (B := 0) (Below.mono (Below.refl 0 _).drew (Nat.zero_le _)))
    have Kau0 : Hid (Blk wr.drew w.heap.size [.int .i64 r.way, .int .i64 r.pal.wd, .int .i64 r.pal.dp, .int .i64 r.pal.ht, .int .i64 r.pal.gram, .int .i64 r.classes, .slice h.ap r.pairs.length h.cp, .slice h.at' r.types.length h.ct, .int .i64 r.master, .slice h.ai r.items.length h.ci]) := unhide Kawr
    have Zau0 : w.heap.size < wr.drew.heap.size := Zawr
    have Kpu0 : Hid (Blk wr.drew pb [.slice ea k ec, .int .i64 (vol (masterV r).wd (masterV r).ht (masterV r).dp), .int .i64 (masterV r).gram, .slice none 0 0, .slice none 0 0]) := unhide Kpwr
    have Zpu0 : pb < wr.drew.heap.size := Zpwr
    obtain ⟨S, hSdef⟩ : ∃ S : World → Prop, S = (fun w' => RqC w' w.heap.size r h ∧ w'.cell? ⟨pb, 0, none⟩ = some (.slice ea k ec)) := ⟨_, rfl⟩
    have hSmk : ∀ wq, Blk wq w.heap.size [.int .i64 r.way, .int .i64 r.pal.wd, .int .i64 r.pal.dp, .int .i64 r.pal.ht, .int .i64 r.pal.gram, .int .i64 r.classes, .slice h.ap r.pairs.length h.cp, .slice h.at' r.types.length h.ct, .int .i64 r.master, .slice h.ai r.items.length h.ci] → Blk wq pb [.slice ea k ec, .int .i64 (vol (masterV r).wd (masterV r).ht (masterV r).dp), .int .i64 (masterV r).gram, .slice none 0 0, .slice none 0 0] → S wq := fun wq ka kp => by rw [hSdef]; exact ⟨RqC.of ka, (kp 0 (by simp)).1⟩
    have hSd : ∀ wq, S wq → (fun w' => RqC w' w.heap.size r h ∧ w'.cell? ⟨pb, 0, none⟩ = some (.slice ea k ec)) wq := fun wq h => by rw [hSdef] at h; exact h
    clear hSdef
    have hHeld : S wr.drew := hSmk wr.drew Kau0.out Kpu0.out
    refine wp_region_to (S := S) (T := [13]) (by kernel_rfl) hHeld (fun _ => ?_)
    generalize wr.drew = u0 at *
    refine wpTo_ts (i := 0) (v := ?_) rfl (by kernel_rfl) hSd (by rfl) (fun w hSw => ?_) (by assumption) ?_
    rotate_left
    · ((try dsimp only [RqC] at hSw); go_simp <;> with_reducible rfl)
    refine wpTo_ts (i := 1) (v := ?_) rfl (by kernel_rfl) hSd (by rfl) (fun w hSw => ?_) (by assumption) ?_
    rotate_left
    · ((try dsimp only [RqC] at hSw); go_simp <;> with_reducible rfl)
    refine wpTo_ts (i := 2) (v := ?_) rfl (by kernel_rfl) hSd (by rfl) (fun w hSw => ?_) (by assumption) ?_
    rotate_left
    · ((try dsimp only [RqC] at hSw); go_simp <;> with_reducible rfl)
    try simp only [Act.put, zz1, zz2, zz3, zz4, zz5, zz6]
    refine wpTo_ts (i := 3) (v := ?_) rfl (by kernel_rfl) hSd (by rfl) (fun w hSw => ?_) (by assumption) ?_
    rotate_left
    · ((try dsimp only [RqC] at hSw); go_simp <;> with_reducible rfl)
    refine wpTo_ts (i := 4) (v := ?_) rfl (by kernel_rfl) hSd (by rfl) (fun w hSw => ?_) (by assumption) ?_
    rotate_left
    · ((try dsimp only [RqC] at hSw); go_simp <;> with_reducible rfl)
    refine wpTo_ts (i := 5) (v := ?_) rfl (by kernel_rfl) hSd (by rfl) (fun w hSw => ?_) (by assumption) ?_
    rotate_left
    · ((try dsimp only [RqC] at hSw); go_simp <;> with_reducible rfl)
    try simp only [Act.put, zz1, zz2, zz3, zz4, zz5, zz6]
    refine wpTo_ts (i := 6) (v := ?_) rfl (by kernel_rfl) hSd (by rfl) (fun w hSw => ?_) (by assumption) ?_
    rotate_left
    · ((try dsimp only [RqC] at hSw); go_simp <;> with_reducible rfl)
    try simp only [Act.put, zz1, zz2, zz3, zz4, zz5, zz6]
    refine wpTo_ready (rs := [7]) (by kernel_rfl) (by simp) ?_
    refine AllTo.cons (o := _) rfl (fun K hK => ?_) ?_
    ·
     (try simp only [zz1, zz2, zz3])
     have QEu1 := hide (own_laterV QEu0.out ((Below.refl _ _).alloc (Nat.le_refl _) (.cells #[.int .i64 (k : Int)] 3)))
     have QSu1 := hide (Nat.le_trans QSu0.out (Nat.le_of_lt (lt_alloc_new u0 (.cells #[.int .i64 (k : Int)] 3))))
     go_simp
     clear hHeld
     generalize hW : (u0.alloc (.cells #[.int .i64 (k : Int)] 3)) = u1 at *
     obtain ⟨hb, Kuu1, Zuu1⟩ := en1 hW
     have hb := unhide hb
     have Bu1 := hide (Bu0.out.trans (hb.mono Bu0.out.size))
     have Gu : w.heap.size ≤ u0.heap.size := Bu0.out.size
     have Kau1 := hide (Blk.below hb Zau0 Kau0.out)
     have Zau1 := Nat.lt_of_lt_of_le Zau0 hb.size
     have Kpu1 := hide (Blk.below hb Zpu0 Kpu0.out)
     have Zpu1 := Nat.lt_of_lt_of_le Zpu0 hb.size
     have Nqau : w.heap.size ≠ u0.heap.size := Nat.ne_of_lt Zau0
     have Nqua := Ne.symm Nqau
     have Nqpu : pb ≠ u0.heap.size := Nat.ne_of_lt Zpu0
     have Nqup := Ne.symm Nqpu
     clear hb hW
     clear Bu0 Kau0 Zau0 Kpu0 Zpu0 QEu0 QSu0
     have hHeld := hSmk u1 Kau1.out Kpu1.out
     refine hK.out _ _ (fun _ => hHeld) ?_
     clear hK K
     try simp only [Act.put, zz1, zz2, zz3, zz4, zz5, zz6]
     refine wpTo_ready (rs := [8]) (by kernel_rfl) (by simp) ?_
     refine AllTo.cons (o := _) rfl (fun K hK => ?_) ?_
     ·
      (try simp only [zz1, zz2, zz3])
      go_simp
      refine (bulkOf_any r h _ 1 _ [(k : Int)] u1 (HR.out.mono Bu1.out) hs (HG.out.later Bu1.out) (Rd.of_blk1 Kuu1.out) (by omega)).mono ?_
      rintro e u2 ⟨rfl, hb⟩
      have Bu2 := hide (Bu1.out.trans (hb.mono Bu1.out.size))
      have Kau2 := hide (Blk.below hb Zau1 Kau1.out)
      have Zau2 := Nat.lt_of_lt_of_le Zau1 hb.size
      have Kpu2 := hide (Blk.below hb Zpu1 Kpu1.out)
      have Zpu2 := Nat.lt_of_lt_of_le Zpu1 hb.size
      have Kuu2 := hide (Blk.below hb Zuu1 Kuu1.out)
      have Zuu2 := Nat.lt_of_lt_of_le Zuu1 hb.size
      have QEu2 : Hid (u2.ownsRow bs 126 2 (.slice ea k ec) k ((bulksTo (itemsR r) k).flatMap BulkV.cells)) := own_laterV QEu1.out hb
      have QSu2 : Hid (bs ≤ u2.heap.size) := Nat.le_trans QSu1.out (Below.size (B := 0) (Below.mono hb (Nat.zero_le _)))
      rw [vol_one, gram_one]
      clear hb
      clear Bu1 Kau1 Zau1 Kpu1 Zpu1 Kuu1 Zuu1 QEu1 QSu1
      clear hHeld
      go_wp2_with fail
      have hHeld := hSmk u2 Kau2.out Kpu2.out
      refine hK.out _ _ (fun _ => hHeld) ?_
      clear hK K
      try simp only [Act.put, zz1, zz2, zz3, zz4, zz5, zz6]
      refine wpTo_ready (rs := [9]) (by kernel_rfl) (by simp) ?_
      refine AllTo.cons (o := _) rfl (fun K hK => ?_) ?_
      ·
       (try simp only [zz1, zz2, zz3])
       have QEu3 := hide (own_laterV QEu2.out ((Below.refl _ _).alloc (Nat.le_refl _) (.cells #[.int .i64 (volAt (itemsR r) (k : Int)), .int .i64 (gramAt (itemsR r) (k : Int))] 126)))
       have QSu3 := hide (Nat.le_trans QSu2.out (Nat.le_of_lt (lt_alloc_new u2 (.cells #[.int .i64 (volAt (itemsR r) (k : Int)), .int .i64 (gramAt (itemsR r) (k : Int))] 126))))
       go_simp
       clear hHeld
       generalize hW : (u2.alloc (.cells #[.int .i64 (volAt (itemsR r) (k : Int)), .int .i64 (gramAt (itemsR r) (k : Int))] 126)) = u3 at *
       obtain ⟨hb, Kbu3, Zbu3⟩ := en1 hW
       have hb := unhide hb
       have Bu3 := hide (Bu2.out.trans (hb.mono Bu2.out.size))
       have Gb : w.heap.size ≤ u2.heap.size := Bu2.out.size
       have Kau3 := hide (Blk.below hb Zau2 Kau2.out)
       have Zau3 := Nat.lt_of_lt_of_le Zau2 hb.size
       have Kpu3 := hide (Blk.below hb Zpu2 Kpu2.out)
       have Zpu3 := Nat.lt_of_lt_of_le Zpu2 hb.size
       have Kuu3 := hide (Blk.below hb Zuu2 Kuu2.out)
       have Zuu3 := Nat.lt_of_lt_of_le Zuu2 hb.size
       have Nqab : w.heap.size ≠ u2.heap.size := Nat.ne_of_lt Zau2
       have Nqba := Ne.symm Nqab
       have Nqpb : pb ≠ u2.heap.size := Nat.ne_of_lt Zpu2
       have Nqbp := Ne.symm Nqpb
       have Nqub : u0.heap.size ≠ u2.heap.size := Nat.ne_of_lt Zuu2
       have Nqbu := Ne.symm Nqub
       clear hb hW
       clear Bu2 Kau2 Zau2 Kpu2 Zpu2 Kuu2 Zuu2 QEu2 QSu2
       have hHeld := hSmk u3 Kau3.out Kpu3.out
       refine hK.out _ _ (fun _ => hHeld) ?_
       clear hK K
       try simp only [Act.put, zz1, zz2, zz3, zz4, zz5, zz6]
       refine wpTo_ready (rs := [10]) (by kernel_rfl) (by simp) ?_
       refine AllTo.cons (o := _) rfl (fun K hK => ?_) ?_
       ·
        skip
        refine step_append_lies _ (by rfl) _ _ 167 (by rfl) bs 126 k0 (.agg #[.int .i64 0, .int .i64 0]) 2 16 Tryz.underlying167 hk0 hx0 hx1 hx2 rfl (by omega) (.slice ea k ec) k ((bulksTo (itemsR r) k).flatMap BulkV.cells) (by rfl) QEu3.out ⟨u2.heap.size, 0, none⟩ 1 1 [.int .i64 (volAt (itemsR r) (k : Int)), .int .i64 (gramAt (itemsR r) (k : Int))] (by rfl) rfl Kbu3.out.news (by simp [Value.oneCell']) (by omega) (by unfold maxLen; omega) (by omega) QSu3.out u3.heap.size rfl ?_
        intro g3 cap3 u4 ho hg hat hlt
        have Bu4 := hide (Bu3.out.grown hg Bu3.out.size (fun q hq => by have := (QEu3.out.lt q hq).1; have := unhide HBW; omega))
        have Kau4 := hide (Kau3.out.keep (hg.block _ Zau3 (fun e => by have := (QEu3.out.lt _ e.symm).1; have := unhide HBP; omega)))
        have Zau4 := Nat.lt_of_lt_of_le Zau3 hg.size
        have Kpu4 := hide (Kpu3.out.keep (hg.block _ Zpu3 (fun e => by have := (QEu3.out.lt _ e.symm).1; have := unhide HBP; omega)))
        have Zpu4 := Nat.lt_of_lt_of_le Zpu3 hg.size
        have HOW := hide ho
        clear ho hg hat hlt hHeld
        clear Bu3 Kau3 Zau3 Kpu3 Zpu3 Kuu3 Zuu3 Kbu3 Zbu3 QEu3 QSu3
        have hHeld := hSmk u4 Kau4.out Kpu4.out
        refine hK.out _ _ (fun _ => hHeld) ?_
        clear hK K
        try simp only [Act.put, zz1, zz2, zz3, zz4, zz5, zz6]
        refine wpTo_ts (i := 11) (v := ?_) rfl (by kernel_rfl) hSd (by rfl) (fun w hSw => ?_) (by assumption) ?_
        rotate_left
        · ((try dsimp only [RqC] at hSw); go_simp <;> with_reducible rfl)
        refine wpTo_ts (i := 12) (v := ?_) rfl (by kernel_rfl) hSd (by rfl) (fun w hSw => ?_) (by assumption) ?_
        rotate_left
        · ((try dsimp only [RqC] at hSw); go_simp <;> with_reducible rfl)
        try simp only [Act.put, zz1, zz2, zz3, zz4, zz5, zz6]
        refine wpTo_ready (rs := [13]) (by kernel_rfl) (by simp) ?_
        refine AllTo.cons (o := _) rfl (fun K hK => ?_) ?_
        ·
         (try simp only [zz1, zz2, zz3])
         have p0 := (Kpu4.out 0 (by simp)).1
         have q0 := (Kpu4.out 0 (by simp)).2
         go_simp
         clear p0 q0
         have Bu5 : Hid (Below w.heap.size w (u4.setCell ⟨pb, 0, none⟩ (.slice (some ⟨g3, 0, none⟩) (k + 1) cap3))) := Bu4.out.setCell Gp _
         have Kpu5 : Hid (Blk (u4.setCell ⟨pb, 0, none⟩ (.slice (some ⟨g3, 0, none⟩) (k + 1) cap3)) pb [.slice (some ⟨g3, 0, none⟩) (k + 1) cap3, .int .i64 (vol (masterV r).wd (masterV r).ht (masterV r).dp), .int .i64 (masterV r).gram, .slice none 0 0, .slice none 0 0]) := Kpu4.out.set (j := 0) (v := .slice (some ⟨g3, 0, none⟩) (k + 1) cap3) (by simp)
         have Zpu5 : pb < (u4.setCell ⟨pb, 0, none⟩ (.slice (some ⟨g3, 0, none⟩) (k + 1) cap3)).heap.size := by simpa using Zpu4
         have Kau5 : Hid (Blk (u4.setCell ⟨pb, 0, none⟩ (.slice (some ⟨g3, 0, none⟩) (k + 1) cap3)) w.heap.size [.int .i64 r.way, .int .i64 r.pal.wd, .int .i64 r.pal.dp, .int .i64 r.pal.ht, .int .i64 r.pal.gram, .int .i64 r.classes, .slice h.ap r.pairs.length h.cp, .slice h.at' r.types.length h.ct, .int .i64 r.master, .slice h.ai r.items.length h.ci]) := Kau4.out.other Nqap
         have Zau5 : w.heap.size < (u4.setCell ⟨pb, 0, none⟩ (.slice (some ⟨g3, 0, none⟩) (k + 1) cap3)).heap.size := by simpa using Zau4
         clear hHeld
         clear Bu4 Kau4 Zau4 Kpu4 Zpu4
         have HOW2 := hide (ownsRow_setCell_below HOW.out (a := ⟨pb, 0, none⟩) HBP.out.1 (.slice (some ⟨g3, 0, none⟩) (k + 1) cap3))
         generalize (u4.setCell ⟨pb, 0, none⟩ (.slice (some ⟨g3, 0, none⟩) (k + 1) cap3)) = u5 at *
         refine hK.out _ _ (fun hn => absurd (by decide) hn) ?_
         clear hK K
         try simp only [Act.put, zz1, zz2, zz3, zz4, zz5, zz6]
         refine wpTo_done (by kernel_rfl) ?_ _
         refine NoPanic.normal ?_
         have hbs2 : bs ≤ u5.heap.size := by have := HOW2.out.lt g3 rfl; omega
         have HO3 : Hid (u5.ownsRow bs 126 2 (.slice (some ⟨g3, 0, none⟩) (k + 1) cap3) (k + 1) ((bulksTo (itemsR r) (k + 1)).flatMap BulkV.cells)) := by rw [Hid, bulksTo_step, List.flatMap_append]; exact unhide HOW2
         go_wp2
         go_roundw
         case rel => exact ⟨k + 1, cap3, some ⟨g3, 0, none⟩, by omega, by go_num, unhide Kpu5, Zpu5, unhide Kau5, Zau5, unhide HO3, hbs2, unhide Bu5⟩
         case measure => simp [intOf]; omega
        exact AllTo.nil
       exact AllTo.nil
      exact AllTo.nil
     exact AllTo.nil
    exact AllTo.nil
end Go.Proofs.YtphdeojiehigpaaGreatDoor

/- Next fit of an order. -/
namespace Go.Proofs.YtphdeojiehigpaaGreatDoor
open Go Go.RowKit
set_option linter.unusedVariables false
set_option linter.unusedSimpArgs false

set_option maxRecDepth 100000 in
set_option maxHeartbeats 4000000 in
theorem packByNext_any (r : ReqV) (h : ReqH) (a : Option Addr) (n c : Nat) (us : List Int) (w : World) (hr : RdReq w r h) (hs : r.small) (hg : ErrT w) (hu : Rd w a n us) (hn : n ≤ 1048576) :
    Calls Tryz.prog 105 #[reqVal r h, .slice a n c, .int .i64 1] w fun e w' => ∃ oa oc rows, e = .returned (.slice oa (nextR r us).length oc) ∧ Own2A w' w.heap.size oa oc rows ∧ rows.map RowV.l = nextR r us ∧ Below w.heap.size w w' := by
  have HR := hide hr
  have HG := hide hg
  have HU := hide hu
  have HIN : Hid (∀ k, k < (knownL (itemsR r) us).length → ∃ v : Nat, (knownL (itemsR r) us).getD k 0 = v ∧ v < (unitsR r).length) := fun k hk => knownL_at hk
  have HN12 := hide (unitsR_len r)
  clear hr hg hu
  unfold reqVal
  go_enter Tryz.func105, Tryz.ntmps105
  go_wp2_with fail
  generalize hW : (w.alloc (.cells #[.int .i64 r.way, .int .i64 r.pal.wd, .int .i64 r.pal.dp, .int .i64 r.pal.ht, .int .i64 r.pal.gram, .int .i64 r.classes, .slice h.ap r.pairs.length h.cp, .slice h.at' r.types.length h.ct, .int .i64 r.master, .slice h.ai r.items.length h.ci] 40)) = W at *
  obtain ⟨BW, KaW, ZaW⟩ := en1 hW
  have Ga : w.heap.size ≤ w.heap.size := by omega
  clear hW
  refine (class_any r h _ (HR.out.mono BW.out) hs (HG.out.later BW.out)).mono ?_
  rintro e v1 ⟨rfl, hb⟩
  have Bv1 := hide (BW.out.trans (hb.mono BW.out.size))
  have Kav1 := hide (Blk.below hb ZaW KaW.out)
  have Zav1 := Nat.lt_of_lt_of_le ZaW hb.size
  clear hb
  clear BW KaW ZaW
  by_cases hz : classI r = 0
  case neg =>
    have hne : (classI r != 0) = true := by simp [hz]
    have HE : Hid (nextR r us = []) := nextR_not hz us
    clear hz
    go_wp2
    go_ret
    rw [unhide HE]
    exact ⟨none, 0, [], rfl, .inl ⟨rfl, rfl, rfl⟩, rfl, unhide Bv1⟩
  rw [hz]
  clear hz
  obtain ⟨ca0, ca1, ca2, ca3, ca4, ca5, ca6, ca7, ca8, ca9⟩ := Blk.cs10 Kav1.out
  go_wp2_with fail
  clear ca0 ca1 ca2 ca3 ca4 ca5 ca6 ca7 ca8 ca9
  generalize hW : (v1.alloc (.cells #[.func (.func 139) #[] #[], .func (.func 140) #[] #[]] 165)) = v2 at *
  obtain ⟨hb, Kfv2, Zfv2⟩ := en1 hW
  have hb := unhide hb
  have Bv2 := hide (Bv1.out.trans (hb.mono Bv1.out.size))
  have Gf : w.heap.size ≤ v1.heap.size := Bv1.out.size
  have Kav2 := hide (Blk.below hb Zav1 Kav1.out)
  have Zav2 := Nat.lt_of_lt_of_le Zav1 hb.size
  have Nqaf : w.heap.size ≠ v1.heap.size := Nat.ne_of_lt Zav1
  have Nqfa := Ne.symm Nqaf
  clear hb hW
  clear Bv1 Kav1 Zav1
  have BQ := Bv2
  refine (packerOf_any r h _ (HR.out.mono Bv2.out) hs (HG.out.later Bv2.out)).mono ?_
  rintro e v3 ⟨Bk, eb, ec, ea, rfl, hB1, hB2, hBl, hea, hE, hne, hb⟩
  have Bv3 := hide (Bv2.out.trans (hb.mono Bv2.out.size))
  have Kav3 := hide (Blk.below hb Zav2 Kav2.out)
  have Zav3 := Nat.lt_of_lt_of_le Zav2 hb.size
  have Kfv3 := hide (Blk.below hb Zfv2 Kfv2.out)
  have Zfv3 := Nat.lt_of_lt_of_le Zfv2 hb.size
  clear hb
  clear Bv2 Kav2 Zav2 Kfv2 Zfv2
  have Kpv3 := hide hBl
  have Zpv3 := hB2
  have HEA := hide hea
  have HB1 : Hid (w.heap.size ≤ Bk) := Nat.le_trans BQ.out.size hB1
  clear hBl hea
  have QEv3 := hide hE
  clear hE hB1
  go_upto_region 5 with fail
  go_cut [8] (fun v wc => v = .pointer (some ⟨Bk, 0, none⟩) ∧ (∃ base, w.heap.size ≤ base ∧ PkOk (itemsR r) (masterV r) base Bk eb (unitsR r).length ec (nextTo (roomB (itemsR r) (masterV r)) (knownL (itemsR r) us) (knownL (itemsR r) us).length) wc) ∧ Below w.heap.size w wc)
  case first =>
    refine wp_region_noPanic ?_
    have Bu0 : Hid (Below w.heap.size w v3.drew) := Bv3.out.drew
    have QEu0 : Hid (EachOk v3.drew eb (unitsR r).length (itemsR r)) := QEv3.out.later (Below.refl _ _).drew
    have Kau0 : Hid (Blk v3.drew w.heap.size [.int .i64 r.way, .int .i64 r.pal.wd, .int .i64 r.pal.dp, .int .i64 r.pal.ht, .int .i64 r.pal.gram, .int .i64 r.classes, .slice h.ap r.pairs.length h.cp, .slice h.at' r.types.length h.ct, .int .i64 r.master, .slice h.ai r.items.length h.ci]) := unhide Kav3
    have Zau0 : w.heap.size < v3.drew.heap.size := Zav3
    have Kfu0 : Hid (Blk v3.drew v1.heap.size [.func (.func 139) #[] #[], .func (.func 140) #[] #[]]) := unhide Kfv3
    have Zfu0 : v1.heap.size < v3.drew.heap.size := Zfv3
    have Kpu0 : Hid (Blk v3.drew Bk [.slice ea (unitsR r).length ec, .int .i64 (vol (masterV r).wd (masterV r).ht (masterV r).dp), .int .i64 (masterV r).gram, .slice none 0 0, .slice none 0 0]) := unhide Kpv3
    have Zpu0 : Bk < v3.drew.heap.size := Zpv3
    obtain ⟨S, hSdef⟩ : ∃ S : World → Prop, S = (fun w' => w'.cell? ⟨v1.heap.size, 1, none⟩ = some (.func (.func 140) #[] #[])) := ⟨_, rfl⟩
    have hSmk : ∀ wq, Blk wq v1.heap.size [.func (.func 139) #[] #[], .func (.func 140) #[] #[]] → S wq := fun wq kf => by rw [hSdef]; exact (kf 1 (by simp)).1
    have hSd : ∀ wq, S wq → (fun w' => w'.cell? ⟨v1.heap.size, 1, none⟩ = some (.func (.func 140) #[] #[])) wq := fun wq h => by rw [hSdef] at h; exact h
    clear hSdef
    have hHeld : S v3.drew := hSmk v3.drew Kfu0.out
    refine wp_region_to (S := S) (T := [7]) (by kernel_rfl) hHeld (fun _ => ?_)
    generalize v3.drew = u0 at *
    refine wpTo_ts (i := 0) (v := ?_) rfl (by kernel_rfl) hSd (by rfl) (fun w hSw => ?_) (by assumption) ?_
    rotate_left
    · ((try dsimp only [RqC] at hSw); go_simp <;> with_reducible rfl)
    refine wpTo_ts (i := 1) (v := ?_) rfl (by kernel_rfl) hSd (by rfl) (fun w hSw => ?_) (by assumption) ?_
    rotate_left
    · ((try dsimp only [RqC] at hSw); go_simp <;> with_reducible rfl)
    try simp only [Act.put, zz1, zz2, zz3, zz4, zz5, zz6]
    refine wpTo_ts (i := 2) (v := ?_) rfl (by kernel_rfl) hSd (by rfl) (fun w hSw => ?_) (by assumption) ?_
    rotate_left
    · ((try dsimp only [RqC] at hSw); go_simp <;> with_reducible rfl)
    refine wpTo_ts (i := 3) (v := ?_) rfl (by kernel_rfl) hSd (by rfl) (fun w hSw => ?_) (by assumption) ?_
    rotate_left
    · ((try dsimp only [RqC] at hSw); go_simp <;> with_reducible rfl)
    refine wpTo_ts (i := 4) (v := ?_) rfl (by kernel_rfl) hSd (by rfl) (fun w hSw => ?_) (by assumption) ?_
    rotate_left
    · ((try dsimp only [RqC] at hSw); go_simp <;> with_reducible rfl)
    try simp only [Act.put, zz1, zz2, zz3, zz4, zz5, zz6]
    refine wpTo_ts (i := 5) (v := ?_) rfl (by kernel_rfl) hSd (by rfl) (fun w hSw => ?_) (by assumption) ?_
    rotate_left
    · ((try dsimp only [RqC] at hSw); go_simp <;> with_reducible rfl)
    try simp only [Act.put, zz1, zz2, zz3, zz4, zz5, zz6]
    refine wpTo_ready (rs := [6]) (by kernel_rfl) (by simp) ?_
    refine AllTo.cons (o := _) rfl (fun K hK => ?_) ?_
    ·
     (try simp only [zz1, zz2, zz3])
     go_simp
     refine (there_any (itemsR r) Bk (unitsR r).length ec ea _ _ _ _ a n c us u0 Kpu0.out Zpu0 rfl (by have := unitsR_len r; omega) (HU.out.mono Bu0.out) (by omega)).mono ?_
     rintro e u4 ⟨tg, tc, rfl, hto, hb⟩
     have Bu4 := hide (Bu0.out.trans (hb.mono Bu0.out.size))
     have Kau4 := hide (Blk.below hb Zau0 Kau0.out)
     have Zau4 := Nat.lt_of_lt_of_le Zau0 hb.size
     have Kfu4 := hide (Blk.below hb Zfu0 Kfu0.out)
     have Zfu4 := Nat.lt_of_lt_of_le Zfu0 hb.size
     have Kpu4 := hide (Blk.below hb Zpu0 Kpu0.out)
     have Zpu4 := Nat.lt_of_lt_of_le Zpu0 hb.size
     have QEu4 : Hid (EachOk u4 eb (unitsR r).length (itemsR r)) := QEu0.out.later hb
     have QTu4 : Hid (u4.ownsRow u0.heap.size 3 1 (.slice (some ⟨tg, 0, none⟩) (knownL (itemsR r) us).length tc) (knownL (itemsR r) us).length (ci (knownL (itemsR r) us))) := hto
     have HUB : Hid (∀ x, (some ⟨tg, 0, none⟩ : Option Addr) = some x → x.block < u4.heap.size ∧ x.block ≠ Bk) := fun x hx => by cases hx; have h1 := hto.lt tg rfl; exact ⟨h1.2, by show tg ≠ Bk; have := Zpu0; omega⟩
     clear hto
     clear hb
     clear Bu0 Kau0 Zau0 Kfu0 Zfu0 Kpu0 Zpu0 QEu0
     clear hHeld
     go_wp2_with fail
     have hHeld := hSmk u4 Kfu4.out
     refine hK.out _ _ (fun _ => hHeld) ?_
     clear hK K
     try simp only [Act.put, zz1, zz2, zz3, zz4, zz5, zz6]
     refine wpTo_ready (rs := [7]) (by kernel_rfl) (by simp) ?_
     refine AllTo.cons (o := _) rfl (fun K hK => ?_) ?_
     ·
      (try simp only [zz1, zz2, zz3])
      go_simp
      refine (nextFitRun_any (itemsR r) (masterV r) Bk eb (unitsR r).length ec (some ⟨tg, 0, none⟩) (knownL (itemsR r) us).length tc (knownL (itemsR r) us) u4 (PkOk.new Zpu4 (Nat.le_refl _) Kpu4.out HEA.out QEu4.out QEu4.out.1 hne) (Rd.of_owns QTu4.out) HUB.out HIN.out (itemsR_good r).gram (by have := knownL_len (itemsR r) us; have := HU.out.1; omega)).mono ?_
      rintro e u5 ⟨rfl, hp, hf⟩
      have HPK : Hid (∃ base, w.heap.size ≤ base ∧ PkOk (itemsR r) (masterV r) base Bk eb (unitsR r).length ec (nextTo (roomB (itemsR r) (masterV r)) (knownL (itemsR r) us) (knownL (itemsR r) us).length) u5) := ⟨_, Bu4.out.size, hp⟩
      have Bu5 := hide (Bu4.out.trans (hf.below Bu4.out.size HB1.out))
      clear hp hf hHeld
      go_wp2_with fail
      refine hK.out _ _ (fun hn => absurd (by decide) hn) ?_
      clear hK K
      try simp only [Act.put, zz1, zz2, zz3, zz4, zz5, zz6]
      refine wpTo_done (by kernel_rfl) ?_ _
      refine NoPanic.normal ?_
      go_wp2_with fail
      go_meet
      case rel => exact ⟨rfl, unhide HPK, unhide Bu5⟩
     exact AllTo.nil
    exact AllTo.nil
  case rest =>
    obtain ⟨rfl, ⟨base, hbs, hp⟩, hb⟩ := hcut
    obtain ⟨oa, oc, rows, c3, hown, hrows⟩ := hp.out
    have HO := hide (hown.low hbs)
    have HRW := hide hrows
    have HB := hide hb
    clear hp hown hrows hb
    go_wp2
    go_ret
    exact ⟨oa, oc, rows, rfl, unhide HO, unhide HRW, unhide HB⟩

end Go.Proofs.YtphdeojiehigpaaGreatDoor
