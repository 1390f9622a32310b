/- First fit of the program. -/
import Derived.Test.YtphdeojiehigpaaGreatDoorPutFrom
import Derived.Test.YtphdeojiehigpaaGreatDoorNextImpl
import Derived.Test.YtphdeojiehigpaaGreatDoorPkJ
import Derived.Deep.DeepMust
import Derived.Deep.DeepCutAuto
namespace Go.Proofs.YtphdeojiehigpaaGreatDoor
open Go Go.RowKit
set_option linter.unusedVariables false
set_option linter.unusedSimpArgs false

theorem Pk.setOther {base Bk : Nat} {ea : Option Addr} {N ecap : Nat} {M G : Int} {ov fv : Value} {rs : List RowW} {fs : List BulkV} {w : World} {F j : Nat} (h : Pk base Bk ea N ecap M G ov fv rs fs w) (hF : F < base) (hB : Bk ≠ F) (u : Value) : Pk base Bk ea N ecap M G ov fv rs fs (w.setCell ⟨F, j, none⟩ u) :=
  ⟨h.lt, by simpa using h.sz, h.blk.other hB, ⟨ownsRow_setCell_below h.cart.out hF _, fun i hi => ownsRow_setCell_below (h.cart.row i hi) hF _, h.cart.apart, h.cart.far⟩, ownsRow_setCell_below h.fill hF _, h.off⟩
theorem PkOk.setOther {xs : List ItemV} {t : TypeV} {base Bk eb N ecap : Nat} {gs : List (List Int)} {w : World} {F j : Nat} (h : PkOk xs t base Bk eb N ecap gs w) (hF : F < base) (hB : Bk ≠ F) (he : eb ≠ F) (u : Value) : PkOk xs t base Bk eb N ecap gs (w.setCell ⟨F, j, none⟩ u) := by
  obtain ⟨ea, oa, oc, fa, fc, n, rs, fs, h0, hp, h1, h2, h3, h4, h5, h6, h7⟩ := h
  exact ⟨ea, oa, oc, fa, fc, n, rs, fs, h0, hp.setOther hF hB u, h1, h2, h3, h4, h5.keep (Below.heap_setCell _ _ _ _ (by simpa using he)) (by simp), h6, h7⟩
theorem take_map_step {α : Type} (f : Int → α) (us : List Int) (k : Nat) (h : k < us.length) : (us.take (k + 1)).map f = (us.take k).map f ++ [f (us.getD k 0)] := by
  rw [List.take_succ_eq_append_getElem h, List.map_append]
  simp [List.getD_eq_getElem?_getD, h]
theorem own_lowB {w : World} {b0 base e size n g cap : Nat} {xs : List Value} (h : w.ownsRow base e size (.slice (some ⟨g, 0, none⟩) n cap) n xs) (hb : b0 ≤ base) : w.ownsRow b0 e size (.slice (some ⟨g, 0, none⟩) n cap) n xs := by
  refine ⟨h.1, ?_⟩
  rcases h.2 with h' | ⟨g', cap', cur, h1, h2, h3, h4⟩
  · exact Or.inl h'
  · exact Or.inr ⟨g', cap', cur, h1, by omega, h3, h4⟩
theorem cellsN_getD (l : List Nat) (i : Nat) (h : i < l.length) : (cellsN l)[i]? = some (.int .i64 ((l.getD i 0 : Nat) : Int)) := by
  rw [cellsN_at l i h]
  simp [List.getD_eq_getElem?_getD, h]

set_option maxHeartbeats 4000000 in
theorem greatestFirst_any (xs : List ItemV) (Bk eb N ecap : Nat) (ea : Option Addr) (c1 c2 c3 c4 : Value) (a : Option Addr) (n c : Nat) (us : List Int) (w : World) (hk : Blk w Bk [.slice ea N ecap, c1, c2, c3, c4]) (hbk : Bk < w.heap.size) (hea : 0 < N → ea = some ⟨eb, 0, none⟩) (hE : EachOk w eb N xs) (hin : ∀ k, k < n → ∃ v : Nat, us.getD k 0 = v ∧ v < N) (hu : Rd w a n us) (hn : n ≤ 1048576) :
    Calls Tryz.prog 180 #[.pointer (some ⟨Bk, 0, none⟩), .slice a n c] w fun e w' => ∃ g cap, e = .returned (.slice (some ⟨g, 0, none⟩) n cap) ∧ w'.ownsRow w.heap.size 3 1 (.slice (some ⟨g, 0, none⟩) n cap) n (ci (sortedU xs us)) ∧ Below w.heap.size w w' := by
  obtain ⟨i0, hi, hz0, hz1, hz2⟩ := info_parts Tryz.infoInts
  have HK := hide hk
  have HU := hide hu
  have HE := hide hE
  have hul := hu.1
  clear hk hu hE
  go_enter Tryz.func180, Tryz.ntmps180
  go_wp2
  have O1 := hide (own_lit0 (e := 3) (size := 1) w (Nat.le_refl _))
  have B1 : Hid (Below w.heap.size w (w.alloc (.cells #[] 3))) := (Below.refl _ _).alloc (Nat.le_refl _) _
  generalize (w.alloc (.cells #[] 3)) = w1 at *
  go_loopw [5, 14] (fun o i wr => ∃ (k g cap : Nat), k ≤ n ∧ i = .int .i64 k ∧ o = .slice (some ⟨g, 0, none⟩) k cap ∧ wr.ownsRow w.heap.size 3 1 (.slice (some ⟨g, 0, none⟩) k cap) k (ci ((us.take k).map (volAt xs))) ∧ Below w.heap.size w wr) (fun _ i _ => n - (intOf i).toNat)
  case atStart => exact ⟨0, w.heap.size, 0, Nat.zero_le _, rfl, rfl, unhide O1, unhide B1⟩
  case round =>
    clear O1 B1
    obtain ⟨k, g, cap, hk, rfl, rfl, hown, hbel⟩ := hrel
    have HO := hide hown
    have HB := hide hbel
    by_cases hlk : k < n
    case pos =>
      obtain ⟨b, off, hua, hc⟩ := ((unhide HU).mono hbel).2 k hlk
      have hku : k < us.length := by omega
      have HST := hide (take_map_step (volAt xs) us k hku)
      obtain ⟨v, hv, hvN⟩ := hin k hlk
      rw [hv] at hc HST
      have hea2 := hea (by omega)
      subst hua
      subst hea2
      have c0 : wr.cell? ⟨Bk, 0, none⟩ = some (.slice (some ⟨eb, 0, none⟩) N ecap) := (hbel.cell (p := ⟨Bk, 0, none⟩) hbk).trans ((unhide HK) 0 (by simp)).1
      have ce := (hbel.cell (p := ⟨eb, v * 2, none⟩) (unhide HE).1).trans ((unhide HE).2 v hvN).1
      have hN : N ≤ 1 ∨ 1 < N := by omega
      clear hN
      obtain ⟨x, hx⟩ : ∃ x, volAt xs (v : Int) = x := ⟨_, rfl⟩
      rw [hx] at ce HST
      have hz : w.heap.size ≤ wr.heap.size := hbel.size
      clear hown hbel hv hx
      have O3 := hide ((unhide HO).alloc (.cells #[.int .i64 x] 3))
      go_wp2_with (first
        | (at_builtin; refine wpList_append_lies _ rfl _ _ 29 rfl w.heap.size 3 i0 (.int .i64 0) 1 8 Tryz.underlying29 hi hz0 hz1 hz2 rfl (by omega) (.slice (some ⟨g, 0, none⟩) k cap) k (ci ((us.take k).map (volAt xs))) rfl (unhide O3) ⟨wr.heap.size, 0, none⟩ 1 1 [.int .i64 x] rfl rfl (World.news_of_block (heap_alloc_new _ _)) (by simp [Value.oneCell']) (by omega) (by unfold maxLen; omega) (by omega) (by simp; omega) (wr.heap.size + 1) (by simp) ?_; intro g3 cap3 w3 ho3 hg3 hat3 hlt3)
        | fail)
      have B4 : Hid (Below w.heap.size w w3) := ((unhide HB).alloc hz (.cells #[.int .i64 x] 3)).grown hg3 (by simp; omega) (fun q hq => by simp [Value.ownBlock] at hq; have := own_base (unhide HO); omega)
      have O4 : Hid (w3.ownsRow w.heap.size 3 1 (.slice (some ⟨g3, 0, none⟩) (k + 1) cap3) (k + 1) (ci ((us.take (k + 1)).map (volAt xs)))) := by rw [unhide HST, ci_snoc]; exact ho3
      clear ho3 hg3 hat3 hlt3
      go_roundw
      case rel => exact ⟨k + 1, g3, cap3, by omega, by go_num, rfl, unhide O4, unhide B4⟩
      case measure => simp [intOf]; omega
    case neg =>
      obtain rfl : k = n := by omega
      have e : us.take k = us := List.take_of_length_le (by omega)
      rw [e] at hown HO
      have hz := hbel.size
      have hlt := (hown.lt g rfl).2
      have R2 : Hid (Rd wr (some ⟨g, 0, none⟩) k (us.map (volAt xs))) := Rd.of_owns hown
      clear hown hbel e
      go_wp2_with fail
      have O5 := hide (own_lit0 (e := 3) (size := 1) wr (Nat.le_refl _))
      have b5 := (Below.refl wr.heap.size wr).alloc (Nat.le_refl _) (.cells #[] 3)
      have hz5 : wr.heap.size < (wr.alloc (.cells #[] 3)).heap.size := by simp
      generalize (wr.alloc (.cells #[] 3)) = w5 at *
      have B5 := hide ((unhide HB).trans (b5.mono hz))
      have R5 := (unhide R2).mono b5
      refine (implSortDown_any (some ⟨g, 0, none⟩) k cap (us.map (volAt xs)) w5 R5 (fun x hx => by cases hx; show g < _; omega) hn).mono ?_
      rintro e w6 ⟨rfl, ho6, hb6⟩
      have O6 : Hid (w6.ownsRow w5.heap.size 3 1 (.slice (some ⟨w5.heap.size + 1, 0, none⟩) k k) k (cellsN (placesU xs us))) := by
        have hl : us.length = k := by omega
        rw [Hid, placesU, hl]
        exact ho6
      have O7 := hide (own_later (unhide O5) hb6)
      have B6 := hide ((unhide B5).trans (hb6.mono (unhide B5).size))
      have hlt6 : w5.heap.size + 1 < w6.heap.size := (ho6.lt _ rfl).2
      have hz6 := hb6.size
      clear ho6 hb6 R5 b5 O5 B5 HB HO R2
      generalize w5.heap.size + 1 = P5 at *
      go_wp2_with fail
      generalize wr.heap.size = B0 at *
      go_loopw [8, 34] (fun o i wq => ∃ (j g cap : Nat), j ≤ k ∧ i = .int .i64 j ∧ o = .slice (some ⟨g, 0, none⟩) j cap ∧ wq.ownsRow B0 3 1 (.slice (some ⟨g, 0, none⟩) j cap) j (ci ((sortedU xs us).take j)) ∧ g ≠ P5 ∧ wq.ownsRow w5.heap.size 3 1 (.slice (some ⟨P5, 0, none⟩) k k) k (cellsN (placesU xs us)) ∧ Below w.heap.size w wq) (fun _ i _ => k - (intOf i).toNat)
      case atStart => exact ⟨0, B0, 0, Nat.zero_le _, rfl, rfl, unhide O7, by have := (unhide O6).lt P5 rfl; omega, unhide O6, unhide B6⟩
      case round =>
        clear O7 O6 B6
        obtain ⟨j, g, cap, hj, rfl, rfl, hown, hgp, hpl, hbel⟩ := hrel
        have HO := hide hown
        have HB := hide hbel
        have HP := hide hpl
        by_cases hlj : j < k
        case pos =>
          have hp := placesU_lt (xs := xs) (us := us) (k := j) (by omega)
          have HST := hide (sortedU_take (xs := xs) (us := us) (k := j) (by omega))
          have c1 := (hpl.cellAt j (by omega)).trans (cellsN_getD _ _ (by rw [placesU_len]; omega))
          generalize (placesU xs us).getD j 0 = p at *
          obtain ⟨b, off, hua, hc⟩ := ((unhide HU).mono hbel).2 p (by omega)
          subst hua
          have hpn : p < k := by omega
          obtain ⟨x, hx⟩ : ∃ x, us.getD p 0 = x := ⟨_, rfl⟩
          rw [hx] at hc HST
          have hz : w.heap.size ≤ wr.heap.size := hbel.size
          have hz7 : B0 ≤ wr.heap.size := by have := (hown.lt g rfl); omega
          clear hown hbel hpl hx hp
          have O3 := hide ((unhide HO).alloc (.cells #[.int .i64 x] 3))
          go_wp2_with (first
            | (at_builtin; refine wpList_append_lies _ rfl _ _ 29 rfl B0 3 i0 (.int .i64 0) 1 8 Tryz.underlying29 hi hz0 hz1 hz2 rfl (by omega) (.slice (some ⟨g, 0, none⟩) j cap) j (ci ((sortedU xs us).take j)) rfl (unhide O3) ⟨wr.heap.size, 0, none⟩ 1 1 [.int .i64 x] rfl rfl (World.news_of_block (heap_alloc_new _ _)) (by simp [Value.oneCell']) (by omega) (by unfold maxLen; omega) (by omega) (by simp; omega) (wr.heap.size + 1) (by simp) ?_; intro g3 cap3 w3 ho3 hg3 hat3 hlt3)
            | fail)
          have B4 : Hid (Below w.heap.size w w3) := ((unhide HB).alloc hz (.cells #[.int .i64 x] 3)).grown hg3 (by simp; omega) (fun q hq => by simp [Value.ownBlock] at hq; have := own_base (unhide HO); omega)
          have O4 : Hid (w3.ownsRow B0 3 1 (.slice (some ⟨g3, 0, none⟩) (j + 1) cap3) (j + 1) (ci ((sortedU xs us).take (j + 1)))) := by rw [unhide HST, ci_snoc]; exact ho3
          have P4 : Hid (w3.ownsRow w5.heap.size 3 1 (.slice (some ⟨P5, 0, none⟩) k k) k (cellsN (placesU xs us))) := ((unhide HP).alloc _).kept hg3 (.inr (fun e => hgp (Eq.symm (by simpa [Value.ownBlock] using e))))
          have N4 : g3 ≠ P5 := by
            have := ((unhide HP).lt P5 rfl).2
            exact Ne.symm (ne_new (b := P5) hat3 (fun e => hgp e.symm) (by omega))
          clear ho3 hg3 hat3 hlt3
          go_roundw
          case rel => exact ⟨j + 1, g3, cap3, by omega, by go_num, rfl, unhide O4, N4, unhide P4, unhide B4⟩
          case measure => simp [intOf]; omega
        case neg =>
          obtain rfl : j = k := by omega
          have e : (sortedU xs us).take j = sortedU xs us := List.take_of_length_le (by rw [sortedU_len]; omega)
          rw [e] at HO
          clear hown hbel hpl e
          go_wp2
          go_ret
          exact ⟨g, cap, rfl, own_lowB (unhide HO) hz, unhide HB⟩

set_option maxRecDepth 100000 in
set_option maxHeartbeats 4000000 in
theorem firstFitRun_any (xs : List ItemV) (t : TypeV) (Bk eb N ecap : Nat) (ea : Option Addr) (a : Option Addr) (n c : Nat) (us : List Int) (w : World) (hk : Blk w Bk [.slice ea N ecap, .int .i64 (vol t.wd t.ht t.dp), .int .i64 t.gram, .slice none 0 0, .slice none 0 0]) (hbk : Bk < w.heap.size) (hea : 0 < N → ea = some ⟨eb, 0, none⟩) (hE : EachOk w eb N xs) (hne : eb ≠ Bk) (hu : Rd w a n us) (hin : ∀ k, k < n → ∃ v : Nat, us.getD k 0 = v ∧ v < N) (hgd : ∀ q ∈ xs, 1 ≤ q.gram ∧ q.gram ≤ 100000) (hn : n ≤ 1048576) (hN12 : N ≤ 12) :
    Calls Tryz.prog 139 #[.pointer (some ⟨Bk, 0, none⟩), .slice a n c] w fun e w' => e = .returned (.tuple #[]) ∧ (∃ base, w.heap.size ≤ base ∧ PkOk xs t base Bk eb N ecap (firstTo (roomB xs t) (sortedU xs us) n) w') ∧ Fr w.heap.size Bk w w' := by
  obtain ⟨i0, hi, hz0, hz1, hz2⟩ := info_parts Tryz.infoInts
  have hbb : i0.bytes * N ≤ 281474976710656 := by rw [hz2]; omega
  have HK := hide hk
  have HU := hide hu
  have HE := hide hE
  have HEA := hide hea
  have HIN := hide hin
  have hul := hu.1
  have c0 : w.cell? ⟨Bk, 0, none⟩ = some (.slice ea N ecap) := (hk 0 (by simp)).1
  clear hk hu hE hea hin
  go_enter Tryz.func139, Tryz.ntmps139
  go_wp2_with (first
    | (at_make; refine wpList_make_full _ rfl _ _ 29 rfl w.heap.size 3 i0 (.int .i64 0) 1 Tryz.underlying29 hi hz0 hz1 .i64 .i64 N N N rfl rfl rfl rfl hbb (by unfold maxLen; omega) (Nat.le_refl _) ?_; intro w1 hown hgrow)
    | fail)
  have hown0 : w1.ownsRow w.heap.size 3 1 (.slice (some ⟨w.heap.size, 0, none⟩) N N) N (cellsN (List.replicate N 0)) := by
    simpa [toList_madeCells_one, Value.cells, cellsN] using hown
  have hb1 : Below w.heap.size w w1 := (Below.refl _ _).grown hgrow (Nat.le_refl _) (by simp)
  have hlt1 := (hown0.lt _ rfl).2
  have HF1 : Hid (Blk w1 w.heap.size (cellsN (List.replicate N 0))) := fun i hi => ⟨hown0.cellAt i (by simpa [cellsN] using hi), hown0.frozenAt i⟩
  have K1 := hide (Blk.below hb1 hbk (unhide HK))
  have E1 := hide ((unhide HE).later hb1)
  have U1 := hide ((unhide HU).mono hb1)
  have hbk1 : Bk < w1.heap.size := Nat.lt_of_lt_of_le hbk hb1.size
  have HB1 := hide hb1
  clear hown hown0 hgrow hb1 c0
  go_wp2_with fail
  refine (greatestFirst_any xs Bk eb N ecap ea _ _ _ _ a n c us w1 (unhide K1) hbk1 (unhide HEA) (unhide E1) (unhide HIN) (unhide U1) hn).mono ?_
  rintro e w2 ⟨sg, sc, rfl, hso, hb2⟩
  have HF2 := hide (Blk.below hb2 hlt1 (unhide HF1))
  have K2 := hide (Blk.below hb2 hbk1 (unhide K1))
  have E2 := hide ((unhide E1).later hb2)
  have hbk2 : Bk < w2.heap.size := Nat.lt_of_lt_of_le hbk1 hb2.size
  have hlt2 : w.heap.size < w2.heap.size := Nat.lt_of_lt_of_le hlt1 hb2.size
  have HFR2 : Hid (Fr w.heap.size Bk w w2) := Fr.of ((unhide HB1).trans (hb2.mono (unhide HB1).size))
  have hsg := hso.lt sg rfl
  have S2 : Hid (Rd w2 (some ⟨sg, 0, none⟩) n (sortedU xs us)) := Rd.of_owns hso
  have HE0 := (unhide HE).1
  have P2 : Hid (PkOk xs t w2.heap.size Bk eb N ecap [] w2) := PkOk.new hbk2 (Nat.le_refl _) (unhide K2) (unhide HEA) (unhide E2) (by omega) hne
  have HSIN : Hid (∀ k, k < n → ∃ v : Nat, (sortedU xs us).getD k 0 = v ∧ v < N) := fun k hk => by
    rw [sortedU_at (by omega)]
    exact (unhide HIN) _ (by have := placesU_lt (xs := xs) (us := us) (k := k) (by omega); omega)
  have hsl : (sortedU xs us).length = n := by rw [sortedU_len]; exact hul
  clear hso hb2 HF1 K1 E1 U1 HB1
  generalize hsu : sortedU xs us = su at *
  have HSU := hide hsu
  clear hsu
  go_wp2_with fail
  have hz12 : w2.heap.size ≤ w2.heap.size := Nat.le_refl _
  go_loopw [17] (fun i wr => ∃ (k : Nat) (fr : List Nat), k ≤ n ∧ i = .int .i64 k ∧ fr.length = N ∧ FromOk (roomB xs t) (firstTo (roomB xs t) su k) fr ∧ Blk wr w.heap.size (cellsN fr) ∧ PkOk xs t w2.heap.size Bk eb N ecap (firstTo (roomB xs t) su k) wr ∧ Rd wr (some ⟨sg, 0, none⟩) n su ∧ Fr w.heap.size Bk w wr ∧ w2.heap.size ≤ wr.heap.size) (fun i _ => n - (intOf i).toNat)
  case atStart =>
    refine ⟨0, List.replicate N 0, Nat.zero_le _, rfl, by simp, fun v hv => ?_, unhide HF2, unhide P2, unhide S2, unhide HFR2, Nat.le_refl _⟩
    rw [List.length_replicate] at hv
    have e : (List.replicate N 0).getD v 0 = 0 := by simp [List.getD_eq_getElem?_getD, hv]
    rw [e]
    exact ⟨Nat.zero_le _, fun j hj => absurd hj (Nat.not_lt_zero _)⟩
  case round =>
    clear HF2 P2 S2 HFR2 K2 E2
    obtain ⟨k, fr, hk, rfl, hfl, hfo, hF, hpk, hS, hfr, hzz⟩ := hrel
    have HP := hide hpk
    have HFR := hide hfr
    have HS := hide hS
    have HF := hide hF
    have HFO := hide hfo
    by_cases hlk : k < n
    case neg =>
      obtain rfl : k = n := by omega
      clear hfo hF hpk hS hfr
      go_wp2
      first | go_end0 | refine bodyPost_ret (results_none rfl _ _ _) rfl ?_
      exact ⟨rfl, ⟨w2.heap.size, by omega, by rw [unhide HSU]; exact unhide HP⟩, unhide HFR⟩
    obtain ⟨b, off, hua, hc⟩ := hS.2 k hlk
    obtain ⟨v, hv, hvN⟩ := (unhide HSIN) k hlk
    have HST := hide (firstTo_step (roomB xs t) su k (by omega))
    have htt := firstTo_tot (roomB xs t) su k (by omega)
    rw [hv] at HST hc
    have hv2 : v < fr.length := by omega
    have cf := (hF v (by simpa [cellsN] using hv2)).1
    rw [cellsN_getD fr v hv2] at cf
    have hfv := hfo v hv2
    generalize firstTo (roomB xs t) su k = gs at *
    have hg9 : gs.length ≤ 1048590 := by omega
    have ht9 : tot2 gs ≤ 1048590 := by omega
    have HCALL := hide (putFrom_any xs t w2.heap.size Bk eb N ecap (fr.getD v 0) v gs wr hpk hfv.1 hvN hgd ht9 hg9)
    have HNO := hide hfv.2
    injection hua with hua
    injection hua with hb1 hb2
    subst hb1 hb2
    rw [Nat.zero_add] at hc
    have HVV := hide hv
    clear hfo hF hpk hS hfr hfv ht9 htt hv
    generalize hq : fr.getD v 0 = q at *
    clear hq
    go_wp2_with fail
    refine (unhide HCALL).mono ?_
    rintro e w3 ⟨p, rfl, hfo, hp2, hf2⟩
    have hpl := hfo.first (unhide HNO)
    have hFb : w3.heap[w.heap.size]? = wr.heap[w.heap.size]? := hf2.block _ (by omega) (by omega)
    have HF3 : Hid (Blk w3 w.heap.size (cellsN fr)) := (unhide HF).keep hFb
    have cz := ((unhide HF3) v (by simpa [cellsN] using hv2)).2
    have cw := ((unhide HF3) v (by simpa [cellsN] using hv2)).1
    rw [cellsN_getD fr v hv2] at cw
    have S3 := hide ((unhide HS).fr hf2 (fun x hx => by cases hx; exact ⟨by show sg < _; omega, by show sg ≠ Bk; omega⟩))
    have HP3 := hide hp2
    have HR3 := hide ((unhide HFR).trans (hf2.mono (by omega)))
    have hz3 := hf2.size
    clear hp2 hf2 hfo HCALL HNO HF HS HP HFR hFb
    go_wp2_with fail
    go_roundw
    case rel =>
      refine ⟨k + 1, fr.set v p, by omega, by go_num, by rw [List.length_set]; exact hfl, ?_, ?_, ?_, ?_, (unhide HR3).set (p := ⟨w.heap.size, v, none⟩) (.inr (Nat.le_refl _)) _, by simp; omega⟩
      · rw [unhide HST, firstStep, hpl]
        have := (unhide HFO).put (fun g u v h => roomB_less hgd g u v h) v hv2
        rw [hpl] at this
        exact this
      · have := (unhide HF3).set (j := v) (v := .int .i64 (p : Int)) (by simpa [cellsN] using hv2)
        rw [show (cellsN fr).set v (.int .i64 (p : Int)) = cellsN (fr.set v p) by simp [cellsN, List.map_set]] at this
        exact this
      · rw [unhide HST, firstStep, hpl]
        exact (unhide HP3).setOther (by omega) (by omega) (by omega) _
      · exact Rd.grown (unhide S3) (gb_set (World.grownBy.refl _ _) _ _) (fun x hx => by cases hx; show sg ≠ w.heap.size; omega)
    case measure => simp [intOf]; omega
end Go.Proofs.YtphdeojiehigpaaGreatDoor
