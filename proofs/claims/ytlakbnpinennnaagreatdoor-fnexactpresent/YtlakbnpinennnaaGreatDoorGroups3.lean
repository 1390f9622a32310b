/- impl.Groups and spec.Groups: the same groups, every row of them new. -/
import Derived.Test.YtlakbnpinennnaaGreatDoorGroups2
namespace Go.Proofs.YtlakbnpinennnaaGreatDoor
open Go.RowKit
set_option linter.unusedVariables false

theorem groupsTo_four (ps : List PairV) (pres : List Int) : groupsTo ps pres 4 = groupsL ps pres := rfl
theorem own2_none (w : World) : Own2 (w.alloc (.cells #[] 32)) w.heap.size w.heap.size 0 [] := ⟨World.ownsRow_lit w #[] 0 (Nat.le_refl _) (Nat.zero_le _) rfl, Rws.nil⟩
set_option maxRecDepth 100000 in
set_option maxHeartbeats 1000000 in
theorem groups_any (a : Option Addr) (n c : Nat) (ps : List PairV) (a' : Option Addr) (n' c' : Nat) (l : List Int) (w : World) (hr : RdR PairV.cells 2 w a n ps) (hr' : Rd w a' n' l) (hn : n ≤ 1048600) (hn' : n' ≤ 1048600) :
    Calls Tryz.prog 40 #[.slice a n c, .slice a' n' c'] w fun e w' => ∃ g cap xs, e = .returned (.slice (some ⟨g, 0, none⟩) xs.length cap) ∧ Own2 w' w.heap.size g cap xs ∧ xs.map RowV.l = groupsL ps l ∧ Below w.heap.size w w' := by
  have HR := hide hr
  have HR' := hide hr'
  have HO := hide (own2_none w)
  clear hr hr'
  go_enter Tryz.func40, Tryz.ntmps40
  go_wp2
  go_loopw [5, 8] (fun o i wr => ∃ (k g cap m : Nat) (xs : List RowV), k ≤ 4 ∧ i = .int .i64 k ∧ xs.length = m ∧ o = .slice (some ⟨g, 0, none⟩) m cap ∧ xs.map RowV.l = groupsTo ps l k ∧ Own2 wr w.heap.size g cap xs ∧ Below w.heap.size w wr) (fun _ i _ => 4 - (intOf i).toNat)
  case atStart => exact ⟨0, w.heap.size, 0, 0, [], by omega, rfl, rfl, rfl, rfl, unhide HO, (Below.refl _ _).alloc (Nat.le_refl _) _⟩
  case round =>
    clear HO
    obtain ⟨k, g, cap, m, xs, hk, rfl, hm, rfl, hg, ho, hbel⟩ := hrel
    have HG := hide hg
    have HO := hide ho
    have HB := hide hbel
    have HM := hide hm
    clear hg ho hbel hm
    by_cases hlt : k < 4
    case neg =>
      obtain rfl : k = 4 := by omega
      go_wp2
      go_ret
      exact ⟨g, cap, xs, by rw [unhide HM]; rfl, unhide HO, (unhide HG).trans (groupsTo_four ps l), unhide HB⟩
    have HST := hide (groupsTo_step ps l k hlt)
    have HBN := hide (groupsTo_bnd ps l k (by omega))
    have hm4 : m ≤ 4 := by have h1 := (unhide HBN).1; have h2 := congrArg List.length (unhide HG); rw [List.length_map, unhide HM] at h2; omega
    go_wp2_with fail
    refine (containsInt_any a' n' c' l (k : Int) wr ((unhide HR').mono (unhide HB)) hn').mono ?_
    rintro e w1 ⟨rfl, hw⟩
    subst w1
    cases hh : hasI l (k : Int)
    case false =>
      go_wp2_with fail
      go_roundw
      case rel => exact ⟨k + 1, g, cap, m, xs, by omega, by go_num, unhide HM, rfl, by rw [unhide HST, addIf, hh]; exact unhide HG, unhide HO, unhide HB⟩
      case measure => simp [intOf]; omega
    go_wp2_with fail
    obtain rfl := unhide HM
    refine (putKind_any a n c ps g cap xs (k : Int) w.heap.size k wr ((unhide HR).mono (by omega) PairV.len (unhide HB)) hn (unhide HO) (by rw [unhide HG]; exact unhide HBN) (by omega) (unhide HB).size).mono ?_
    rintro e w2 ⟨g2, cap2, xs2, rfl, ho2, hg2, hb2⟩
    have O2 := hide ho2
    have G2 := hide hg2
    have B2 := hide ((unhide HB).trans hb2)
    clear ho2 hg2 hb2 HO
    go_wp2_with fail
    go_roundw
    case rel => exact ⟨k + 1, g2, cap2, xs2.length, xs2, by omega, by go_num, rfl, rfl, by rw [unhide HST, addIf, hh, unhide G2, unhide HG]; rfl, unhide O2, unhide B2⟩
    case measure => simp [intOf]; omega
/-- What the scan from the end has found by place k. -/
def scanned (ps : List PairV) (x : Int) (gs : List (List Int)) (k : Nat) (t : Int) : Prop :=
  (t = -1 ∧ ∀ j, k ≤ j → j < gs.length → joinsB ps (gs.getD j []) x = false) ∨ (∃ m : Nat, t = m ∧ k ≤ m ∧ m < gs.length ∧ joinsB ps (gs.getD m []) x = true ∧ ∀ j, k ≤ j → j < m → joinsB ps (gs.getD j []) x = false)
theorem scanned.miss {ps : List PairV} {x : Int} {gs : List (List Int)} {k : Nat} {t : Int} (h : scanned ps x gs (k + 1) t) (hj : joinsB ps (gs.getD k []) x = false) : scanned ps x gs k t := by
  have key : ∀ j, k ≤ j → j = k ∨ k + 1 ≤ j := fun j h => by omega
  rcases h with ⟨h1, h2⟩ | ⟨m, h1, h2, h3, h4, h5⟩
  · refine Or.inl ⟨h1, fun j hk hl => ?_⟩
    rcases key j hk with rfl | h
    · exact hj
    · exact h2 j h hl
  · refine Or.inr ⟨m, h1, by omega, h3, h4, fun j hk hl => ?_⟩
    rcases key j hk with rfl | h
    · exact hj
    · exact h5 j h hl
theorem scanned.hit {ps : List PairV} {x : Int} {gs : List (List Int)} {k : Nat} (hk : k < gs.length) (hj : joinsB ps (gs.getD k []) x = true) : scanned ps x gs k (k : Int) :=
  Or.inr ⟨k, rfl, Nat.le_refl _, hk, hj, fun j h1 h2 => by omega⟩
set_option maxRecDepth 100000 in
set_option maxHeartbeats 2000000 in
theorem specGroups_any (a : Option Addr) (n c : Nat) (ps : List PairV) (a' : Option Addr) (n' c' : Nat) (l : List Int) (w : World) (hr : RdR PairV.cells 2 w a n ps) (hr' : Rd w a' n' l) (hn : n ≤ 1048600) (hn' : n' ≤ 1048600) :
    Calls Tryz.prog 52 #[.slice a n c, .slice a' n' c'] w fun e w' => ∃ g cap xs, e = .returned (.slice (some ⟨g, 0, none⟩) xs.length cap) ∧ Own2 w' w.heap.size g cap xs ∧ xs.map RowV.l = groupsL ps l ∧ Below w.heap.size w w' := by
  obtain ⟨i0, hi0, hz0, hz1, hz2⟩ := info_parts Tryz.infoIntS2
  obtain ⟨j0, hj0, hy0, hy1, hy2⟩ := info_parts Tryz.infoInt2
  have HR := hide hr
  have HR' := hide hr'
  have HO := hide (own2_none w)
  clear hr hr'
  go_enter Tryz.func52, Tryz.ntmps52
  go_wp2
  go_loopw [5, 6] (fun o i wr => ∃ (k g cap m : Nat) (xs : List RowV), k ≤ 4 ∧ i = .int .i64 k ∧ xs.length = m ∧ o = .slice (some ⟨g, 0, none⟩) m cap ∧ xs.map RowV.l = groupsTo ps l k ∧ Own2 wr w.heap.size g cap xs ∧ Below w.heap.size w wr) (fun _ i _ => 4 - (intOf i).toNat)
  case atStart => exact ⟨0, w.heap.size, 0, 0, [], by omega, rfl, rfl, rfl, rfl, unhide HO, (Below.refl _ _).alloc (Nat.le_refl _) _⟩
  case round =>
    clear HO
    obtain ⟨k, g, cap, m, xs, hk, rfl, hm, rfl, hg, ho, hbel⟩ := hrel
    have HG := hide hg
    have HO := hide ho
    have HB := hide hbel
    have HM := hide hm
    clear hg ho hbel hm
    by_cases hlt : k < 4
    case neg =>
      obtain rfl : k = 4 := by omega
      go_wp2
      go_ret
      exact ⟨g, cap, xs, by rw [unhide HM]; rfl, unhide HO, (unhide HG).trans (groupsTo_four ps l), unhide HB⟩
    have HST := hide (groupsTo_step ps l k hlt)
    have HBN := hide (groupsTo_bnd ps l k (by omega))
    have hm4 : m ≤ 4 := by have h1 := (unhide HBN).1; have h2 := congrArg List.length (unhide HG); rw [List.length_map, unhide HM] at h2; omega
    go_wp2_with fail
    refine (l1Has_any a' n' c' l (k : Int) wr ((unhide HR').mono (unhide HB)) hn').mono ?_
    rintro e w1 ⟨rfl, hw⟩
    subst w1
    cases hh : hasI l (k : Int)
    case false =>
      go_wp2_with fail
      go_roundw
      case rel => exact ⟨k + 1, g, cap, m, xs, by omega, by go_num, unhide HM, rfl, by rw [unhide HST, addIf, hh]; exact unhide HG, unhide HO, unhide HB⟩
      case measure => simp [intOf]; omega
    have HAD : Hid (groupsTo ps l (k + 1) = addTo ps (k : Int) (xs.map RowV.l)) := by rw [unhide HST, addIf, hh, unhide HG]; exact hide rfl
    clear hh HST
    go_wp2_with fail
    go_loop [7, 8] (fun t i => ∃ (q : Nat) (tv : Int), q ≤ m ∧ i = .int .i64 ((q : Int) - 1) ∧ t = .int .i64 tv ∧ scanned ps (k : Int) (xs.map RowV.l) q tv) (fun _ i => (intOf i + 1).toNat)
    case atStart => exact ⟨m, -1, Nat.le_refl _, rfl, rfl, Or.inl ⟨rfl, fun j h1 h2 => by rw [List.length_map, unhide HM] at h2; omega⟩⟩
    case round =>
      obtain ⟨q, tv, hq, rfl, rfl, hs⟩ := hrel
      have HS := hide hs
      clear hs
      by_cases hq0 : q = 0
      case neg =>
        obtain ⟨q, rfl⟩ : ∃ q', q = q' + 1 := ⟨q - 1, by omega⟩
        rw [show ((q + 1 : Nat) : Int) - 1 = (q : Int) by omega]
        have hqm : q < xs.length := by rw [unhide HM]; omega
        obtain ⟨c1, f1⟩ := (unhide HO).cell q hqm
        have hrow := (unhide HO).rws.row q hqm
        have HRD := hide (own_reads hrow)
        have HML := hide (map_getD_l xs q hqm)
        have hll : (xs.getD q default).l.length ≤ k := by have := (unhide HBN).row q (by have h2 := congrArg List.length (unhide HG); rw [List.length_map] at h2; omega); rw [← unhide HG, map_getD_l xs q hqm] at this; exact this
        unfold RowV.val at c1
        generalize xs.getD q default = r at c1 hll HRD HML
        clear hrow
        go_wp2_with fail
        refine (l3Joins_any a n c ps (some ⟨r.g, 0, none⟩) r.l.length r.cap r.l (k : Int) wr ((unhide HR).mono (by omega) PairV.len (unhide HB)) (unhide HRD) hn (by omega)).mono ?_
        rintro e w1 ⟨rfl, hw⟩
        subst w1
        cases hj : joinsB ps r.l (k : Int)
        · have HS2 := hide ((unhide HS).miss (by rw [unhide HML]; exact hj))
          go_wp2_with fail
          go_round
          case rel => exact ⟨q, tv, by omega, rfl, rfl, unhide HS2⟩
          case measure => simp [intOf]
        · have HS2 := hide (scanned.hit (ps := ps) (x := (k : Int)) (gs := xs.map RowV.l) (k := q) (by simpa using hqm) (by rw [unhide HML]; exact hj))
          go_wp2_with fail
          go_round
          case rel => exact ⟨q, (q : Int), by omega, rfl, rfl, unhide HS2⟩
          case measure => simp [intOf]
      subst hq0
      rw [show ((0 : Nat) : Int) - 1 = -1 by omega]
      have hsz := (unhide HB).size
      obtain rfl := unhide HM
      rcases unhide HS with ⟨rfl, h0⟩ | ⟨m1, rfl, _, hm1, hj, h0⟩
      · clear HS
        have HE := hide (addTo_none ps (k : Int) (xs.map RowV.l) (fun j hj => h0 j (Nat.zero_le _) hj))
        clear h0
        have O2 := hide ((unhide HO).later ((Below.refl _ wr).alloc (Nat.le_refl _) (.cells #[.int .i64 (k : Int)] 3)))
        have R2 : Hid (RowV.own (wr.alloc (.cells #[.int .i64 (k : Int)] 3)) w.heap.size ⟨wr.heap.size, 1, [(k : Int)]⟩) := World.ownsRow_lit wr #[.int .i64 (k : Int)] 1 (by omega) (by unfold maxLen; omega) rfl
        have O3 := hide ((unhide O2).later ((Below.refl _ (wr.alloc (.cells #[.int .i64 (k : Int)] 3))).alloc (Nat.le_refl _) (.cells #[.slice (some ⟨wr.heap.size, 0, none⟩) 1 1] 32)))
        have R3 := hide ((unhide R2).later ((Below.refl _ (wr.alloc (.cells #[.int .i64 (k : Int)] 3))).alloc (Nat.le_refl _) (.cells #[.slice (some ⟨wr.heap.size, 0, none⟩) 1 1] 32)))
        go_wp2_with (first
          | (at_builtin; refine wpList_append_lies _ rfl _ _ 35 rfl w.heap.size 32 i0 (.slice none 0 0) 1 24 Tryz.underlying35 hi0 hz0 hz1 hz2 rfl (by omega) (.slice (some ⟨g, 0, none⟩) xs.length cap) xs.length (xs.map RowV.val) rfl (unhide O3).out ⟨wr.heap.size + 1, 0, none⟩ 1 1 [.slice (some ⟨wr.heap.size, 0, none⟩) 1 1] rfl rfl (World.news_of_block (by have := heap_alloc_new (wr.alloc (.cells #[.int .i64 (k : Int)] 3)) (.cells #[.slice (some ⟨wr.heap.size, 0, none⟩) 1 1] 32); simpa using this)) (by simp [Value.oneCell']) (by omega) (by unfold maxLen; omega) (by omega) (by simp; omega) (wr.heap.size + 2) (by simp) ?_; intro g3 cap3 w3 ho3 hg3 hat3 hlt3)
          | go_in)
        have O4 := hide ((unhide O3).pushed (r := ⟨wr.heap.size, 1, [(k : Int)]⟩) (unhide R3) (fun i hi e => by have h := ((unhide HO).rws.row i hi).lt.2; have e' : (xs.getD i default).g = wr.heap.size := e; omega) (by have h := ((unhide HO).out.lt g rfl).2; show wr.heap.size ≠ g; omega) ho3 hg3 hat3 (by simp))
        have B4 : Hid (Below w.heap.size w w3) := (((unhide HB).alloc (by omega) _).alloc (by simp; omega) _).grown hg3 (by simp; omega) (fun k hk => by have := own_base (unhide HO).out; simp [Value.ownBlock] at hk; omega)
        clear ho3 hg3 hat3 hlt3
        go_wp2_with fail
        go_roundw
        case rel => exact ⟨k + 1, g3, cap3, xs.length + 1, xs ++ [⟨wr.heap.size, 1, [(k : Int)]⟩], by omega, by go_num, by rw [List.length_append]; rfl, rfl, by rw [unhide HAD, unhide HE, List.map_append]; rfl, unhide O4, unhide B4⟩
        case measure => simp [intOf]; omega
      · clear HS
        have hm2 : m1 < xs.length := by simpa using hm1
        have hneg : ¬ (m1 : Int) < 0 := by omega
        have HE := hide (addTo_hit ps (k : Int) (xs.map RowV.l) m1 hm1 (fun j hj => h0 j (Nat.zero_le _) hj) hj)
        rw [map_getD_l xs m1 hm2] at HE
        clear h0 hj
        obtain ⟨c1, f1⟩ := (unhide HO).cell m1 hm2
        have HRW := hide ((unhide HO).rws.row m1 hm2)
        have hll : (xs.getD m1 default).l.length ≤ k := by have := (unhide HBN).row m1 (by have h2 := congrArg List.length (unhide HG); rw [List.length_map] at h2; omega); rw [← unhide HG, map_getD_l xs m1 hm2] at this; exact this
        have HGR := hide (fun (W w3 : World) (r : RowV) (H : Nat) (h : Own2 W w.heap.size g cap xs) => h.grew (w3 := w3) (r := r) (H := H) hm2)
        unfold RowV.val at c1
        generalize xs.getD m1 default = r at c1 hll HRW HE HGR
        have O3 := hide ((unhide HO).later ((Below.refl _ wr).alloc (Nat.le_refl _) (.cells #[.int .i64 (k : Int)] 3)))
        have RW3 := hide ((unhide HRW).later ((Below.refl _ wr).alloc (Nat.le_refl _) (.cells #[.int .i64 (k : Int)] 3)))
        go_wp2_with (first
          | (at_builtin; go_must (refine wpList_append_lies _ rfl _ _ 32 rfl w.heap.size 3 j0 (.int .i64 0) 1 8 Tryz.underlying32 hj0 hy0 hy1 hy2 rfl (by omega) (.slice (some ⟨r.g, 0, none⟩) r.l.length r.cap) r.l.length (r.l.map (Value.int .i64)) rfl (unhide RW3) ⟨wr.heap.size, 0, none⟩ 1 1 [.int .i64 (k : Int)] rfl rfl (World.news_of_block (heap_alloc_new _ _)) (by simp [Value.oneCell']) (by omega) (by unfold maxLen; omega) (by omega) (by simp; omega) (wr.heap.size + 1) (by simp) ?_; intro g3 cap3 w3 ho3 hg3 hat3 hlt3; have RN : RowV.own w3 w.heap.size ⟨g3, cap3, r.l ++ [(k : Int)]⟩ := (by unfold RowV.own; rw [List.length_append, List.map_append]; exact ho3); obtain ⟨c4, f4, ho4⟩ := (unhide HGR) _ w3 ⟨g3, cap3, r.l ++ [(k : Int)]⟩ (wr.heap.size + 1) (unhide O3) RN hg3 hat3 (by simp); have hv4 : RowV.val ⟨g3, cap3, r.l ++ [(k : Int)]⟩ = .slice (some ⟨g3, 0, none⟩) (r.l.length + 1) cap3 := (by unfold RowV.val; rw [List.length_append]; rfl); rw [hv4] at ho4; unfold RowV.val at c4; have O4 := hide ho4; have B4 : Hid (Below w.heap.size w (w3.setCell ⟨g, m1, none⟩ (.slice (some ⟨g3, 0, none⟩) (r.l.length + 1) cap3))) := (((unhide HB).alloc (by omega) _).grown hg3 (by simp; omega) (fun b hk => by have := (unhide HRW).lt.1; simp [Value.ownBlock] at hk; omega)).setCell (own_base (unhide HO).out) _; clear ho3 hg3 hat3 hlt3 ho4 hv4 RN))
          | go_in)
        go_roundw
        case rel => exact ⟨k + 1, g, cap, xs.length, xs.set m1 ⟨g3, cap3, r.l ++ [(k : Int)]⟩, by omega, by go_num, by rw [List.length_set], rfl, by rw [unhide HAD, unhide HE, List.map_set], unhide O4, unhide B4⟩
        case measure => simp [intOf]; omega
end Go.Proofs.YtlakbnpinennnaaGreatDoor
