/- laws.FnTables: a right table tells the same both ways, and each beside itself. -/
import Derived.Test.YtmjohalblppgiaaTableEnd
import Derived.Test.YtmjohalblppgiaaDraw3
import Derived.Deep.RegionLaw
namespace Go.Proofs.Ytmjohalblppgiaa
open Go.RowKit
set_option linter.unusedVariables false
set_option linter.unusedSimpArgs false

theorem table_in {ps : List PairV} {c : Nat} (h : tableB ps (c : Int) = true) : 1 ≤ c ∧ c ≤ 4 := by
  simp only [tableB, Bool.and_eq_true, decide_eq_true_eq] at h
  omega
theorem table_row {ps : List PairV} {c : Nat} (h : tableB ps (c : Int) = true) {a b : Nat} (ha : a < c) (hb : b < c) : (a = b → besB ps a a = true) ∧ besB ps a b = besB ps b a := by
  simp only [tableB, tableRow, Bool.and_eq_true, Int.toNat_natCast, List.all_eq_true, List.mem_range] at h
  have h1 := h.2 a ha b hb
  rw [Bool.not_eq_true', Bool.or_eq_false_iff, bne_eq_false_iff_eq] at h1
  refine ⟨fun e => ?_, h1.2⟩
  have h2 := h1.1
  simp [e] at h2
  rw [e]
  exact h2
def PairV.swap (q : PairV) : PairV := ⟨q.b, q.a⟩
def turnP (ps : List PairV) : List PairV := ps.reverse.map PairV.swap
theorem turnP_bes (ps : List PairV) (x y : Int) : besB (turnP ps) x y = besB ps y x := by
  rw [Bool.eq_iff_iff, besB_iff, besB_iff]
  unfold turnP
  rw [List.mem_map]
  constructor
  · rintro ⟨q, hq, e⟩
    rw [List.mem_reverse] at hq
    have : q = ⟨y, x⟩ := by cases q; simp [PairV.swap] at e; simp [e]
    rwa [← this]
  · intro h
    exact ⟨⟨y, x⟩, List.mem_reverse.2 h, rfl⟩
theorem turnP_table (ps : List PairV) (c : Int) : tableB (turnP ps) c = tableB ps c := by
  unfold tableB tableRow
  simp only [turnP_bes]
  congr 1
  refine congrArg (List.all (List.range c.toNat)) ?_
  funext a
  refine congrArg (List.all (List.range c.toNat)) ?_
  funext b
  rw [bne_comm]
theorem turnP_step (ps : List PairV) (q : Nat) (h : q < ps.length) : turnP (ps.drop q) = turnP (ps.drop (q + 1)) ++ [(ps.getD q default).swap] := by
  unfold turnP
  rw [List.drop_eq_getElem_cons h, List.reverse_cons, List.map_append]
  simp [h]
theorem turnP_len (ps : List PairV) : (turnP ps).length = ps.length := by simp [turnP]
set_option maxRecDepth 100000 in
set_option maxHeartbeats 6400000 in
theorem law_tables (a : Option Addr) (n c : Nat) (zs : List Int) (w : World) (hr : RdB w a n zs) (hm : n ≤ maxLen) :
    Calls Try.prog 5 #[.slice a n c] w fun e w' => e = .returned (.bool true) ∧ Below w.heap.size w w' := by
  unfold maxLen at hm
  by_cases hn : n ≤ 1048576
  case neg =>
    have hgt : (1048576 : Int) < (n : Int) := by omega
    go_enter Try.func5, Try.ntmps5
    go_wp2_with (first | (go_at_call 9; go_in) | fail)
    go_ret
    exact ⟨rfl, Below.refl _ _⟩
  have hgt : ¬ (1048576 : Int) < (n : Int) := by omega
  obtain ⟨i0, hi0, hz0, hz1, hz2⟩ := info_parts Try.dinfoPair
  have HR := hide hr
  clear hr
  go_enter Try.func5, Try.ntmps5
  go_wp2_with (first | (go_at_call 9; go_in) | fail)
  refine (drawTableOk_any a n c zs w (unhide HR) hn).mono ?_
  rintro e w1 ⟨b, off, m, cap, ps, x, rfl, hm17, hx0, hx1, hr1, hb1⟩
  obtain ⟨cl, rfl⟩ := Int.eq_ofNat_of_zero_le hx0
  have R1 := hide hr1
  have B1 := hide hb1
  obtain ⟨t, ht⟩ : ∃ t, tableB ps (cl : Int) = t := ⟨_, rfl⟩
  have HT := hide ht
  have htt : (t != t) = false := by simp
  clear hr1 hb1 ht
  go_wp2_with fail
  refine (tableOk_any _ m cap ps (cl : Int) w1 (unhide R1) (by omega)).mono ?_
  rintro e w2 ⟨rfl, hb2⟩
  have B2 := hide hb2
  clear hb2
  rw [unhide HT]
  go_wp2_with fail
  refine (specTableOk_any _ m cap ps (cl : Int) w2 ((unhide R1).mono (by omega) PairV.len (unhide B2)) (by omega)).mono ?_
  rintro e w3 ⟨rfl, hw⟩
  subst w3
  rw [unhide HT]
  go_wp2_with fail
  refine (drawBeside_any a n c zs w2 (by exact ((unhide HR).mono (unhide B1)).mono (unhide B2)) hn).mono ?_
  rintro e w4 ⟨b4, off4, m4, cap4, ps4, x4, y4, rfl, hm4, hr4, hb4⟩
  have R4 := hide hr4
  have B4 := hide ((unhide B2).trans (hb4.mono (unhide B2).size))
  have hbb : (besB ps4 x4 y4 != besB ps4 x4 y4) = false := by simp
  clear hr4 hb4 B2
  go_wp2_with fail
  refine (beside_any _ m4 cap4 ps4 x4 y4 w4 (unhide R4) (by omega)).mono ?_
  rintro e w5 ⟨rfl, hb5⟩
  have R5 := hide ((unhide R4).mono (by omega) PairV.len hb5)
  have B5 := hide ((unhide B4).trans (hb5.mono (unhide B4).size))
  clear hb5 B4 R4
  go_wp2_with fail
  refine (specBeside_any _ m4 cap4 ps4 x4 y4 w5 (unhide R5) (by omega)).mono ?_
  rintro e w6 ⟨rfl, hw⟩
  subst w6
  clear R5
  go_wp2_with fail
  go_loopw [9] (fun i wr => ∃ k : Nat, k ≤ 6 ∧ i = .int .i64 k ∧ Below w1.heap.size w1 wr) (fun i _ => 6 - (intOf i).toNat)
  case atStart => exact ⟨0, by omega, rfl, unhide B5⟩
  case round =>
    clear B5
    obtain ⟨i, hi, rfl, hbel⟩ := hrel
    have HB := hide hbel
    clear hbel
    by_cases hin : i < cl ∧ t = true
    case pos =>
      obtain ⟨hlt, rfl⟩ := hin
      have h14 := table_in (unhide HT)
      have hself := (table_row (unhide HT) hlt hlt).1 rfl
      have HBO := hide (fun k (hk : k < cl) => (table_row (unhide HT) hlt hk).2)
      have hltI : (i : Int) < (cl : Int) := by omega
      go_wp2_with fail
      refine (beside_any _ m cap ps (i : Int) (i : Int) wr ((unhide R1).mono (by omega) PairV.len (unhide HB)) (by omega)).mono ?_
      rintro e w7 ⟨rfl, hb7⟩
      have B7 := hide ((unhide HB).trans (hb7.mono (unhide HB).size))
      rw [hself]
      clear hb7 hself HB
      go_wp2_with fail
      go_loopw [10] (fun j wr => ∃ k : Nat, k ≤ cl ∧ j = .int .i64 k ∧ Below w1.heap.size w1 wr) (fun i _ => cl - (intOf i).toNat)
      case atStart => exact ⟨0, by omega, rfl, unhide B7⟩
      case round =>
        clear B7
        obtain ⟨j, hj, rfl, hbel⟩ := hrel
        have HB := hide hbel
        clear hbel
        by_cases hlt2 : j < cl
        case neg =>
          go_wp2_with fail
          go_roundw
          case rel => exact ⟨i + 1, by omega, by go_num, unhide HB⟩
          case measure => simp [intOf]; omega
        have hbo := (unhide HBO) j hlt2
        go_wp2_with fail
        refine (beside_any _ m cap ps (i : Int) (j : Int) wr ((unhide R1).mono (by omega) PairV.len (unhide HB)) (by omega)).mono ?_
        rintro e w8 ⟨rfl, hb8⟩
        have B8 := hide ((unhide HB).trans (hb8.mono (unhide HB).size))
        rw [hbo]
        clear hb8 HB hbo
        go_wp2_with fail
        refine (beside_any _ m cap ps (j : Int) (i : Int) w8 ((unhide R1).mono (by omega) PairV.len (unhide B8)) (by omega)).mono ?_
        rintro e w9 ⟨rfl, hb9⟩
        have B9 := hide ((unhide B8).trans (hb9.mono (unhide B8).size))
        clear hb9 B8
        have hqq : (besB ps (j : Int) (i : Int) != besB ps (j : Int) (i : Int)) = false := by simp
        go_wp2_with fail
        go_roundw
        case rel => exact ⟨j + 1, by omega, by go_num, unhide B9⟩
        case measure => simp [intOf]; omega
    have HO := hide (World.ownsRow_lit wr #[] (e := 40) (size := 2) 0 (Nat.le_refl _) (Nat.zero_le _) rfl)
    have hml : Hid (ps.length = m) := (unhide R1).1
    by_cases hlt : i < cl
    case' pos =>
      have htf : t = false := by cases t; rfl; exact absurd ⟨hlt, rfl⟩ hin
      clear hin
      subst htf
      have hltI : (i : Int) < (cl : Int) := by omega
      go_wp2_with fail
    case' neg =>
      clear hin
      have hltI : ¬ (i : Int) < (cl : Int) := by omega
      go_wp2_with fail
    all_goals
      have B6 : Hid (Below w1.heap.size w1 (wr.alloc (.cells #[] 40))) := (unhide HB).alloc (unhide HB).size _
      have hzw : w1.heap.size ≤ wr.heap.size := (unhide HB).size
      clear HB hltI
      generalize hBS : wr.heap.size = BS at HO B6 hzw ⊢
      generalize wr.alloc (.cells #[] 40) = wA at HO B6 ⊢
      clear hBS
      have hBA : BS ≤ wA.heap.size := by have := ((unhide HO).lt BS rfl).2; omega
      go_loopw [11, 12] (fun o i wq => ∃ (q g l cap2 : Nat) (qs : List PairV), q ≤ m ∧ i = .int .i64 ((q : Int) - 1) ∧ qs = turnP (ps.drop q) ∧ qs.length = l ∧ l ≤ 17 ∧ o = .slice (some ⟨g, 0, none⟩) l cap2 ∧ wq.ownsRow BS 40 2 (.slice (some ⟨g, 0, none⟩) l cap2) l (qs.flatMap PairV.cells) ∧ Below w1.heap.size w1 wq ∧ BS ≤ wq.heap.size) (fun _ i _ => (intOf i + 1).toNat)
      case atStart => exact ⟨m, BS, 0, 0, [], Nat.le_refl _, rfl, by rw [List.drop_of_length_le (by rw [unhide hml]; exact Nat.le_refl _)]; rfl, rfl, by omega, rfl, unhide HO, unhide B6, hBA⟩
      case round =>
        clear HO B6
        obtain ⟨q, g, l, cap2, qs, hq, rfl, hqs, hql, hl17, rfl, how, hbel, hBz⟩ := hrel
        have HQS := hide hqs
        have HQL := hide hql
        have HO := hide how
        have HB := hide hbel
        clear hqs hql how hbel
        by_cases hq0 : q = 0
        · subst hq0
          rw [show ((0 : Nat) : Int) - 1 = -1 by omega]
          obtain rfl := unhide HQL
          have HTQ : Hid (tableB qs (cl : Int) = tableB ps (cl : Int)) := hide (by rw [unhide HQS, List.drop_zero, turnP_table])
          go_wp2_with fail
          refine (tableOk_any _ qs.length cap2 qs (cl : Int) _ (RdR.of_flat PairV.len (unhide HO)) (by omega)).mono ?_
          rintro e w9 ⟨rfl, hb9⟩
          have B9 := hide ((unhide HB).trans (hb9.mono (unhide HB).size))
          rw [unhide HTQ, unhide HT]
          clear hb9 HB HO
          try cases t
          all_goals
            go_wp2_with fail
            go_ret
            exact ⟨rfl, (unhide B1).trans ((unhide B9).mono (unhide B1).size)⟩
        · obtain ⟨q, rfl⟩ : ∃ q', q = q' + 1 := ⟨q - 1, by omega⟩
          rw [show ((q + 1 : Nat) : Int) - 1 = (q : Int) by omega]
          obtain ⟨b1, off1, e1, hc⟩ := ((unhide R1).mono (by omega) PairV.len (unhide HB)).2 q (by omega)
          cases e1
          have HTS := hide (turnP_step ps q (by rw [unhide hml]; omega))
          generalize ps.getD q default = r at hc HTS
          have d0 : wr.cell? ⟨b, off + q * 2, none⟩ = some (.int .i64 r.a) := hc 0 (by omega)
          have d1 : wr.cell? ⟨b, off + q * 2 + 1, none⟩ = some (.int .i64 r.b) := hc 1 (by omega)
          clear hc
          have hqm : q < m := by omega
          have hl2 : l < 17 := by have h1 := unhide HQL; rw [unhide HQS, turnP_len, List.length_drop, unhide hml] at h1; omega
          go_wp2_with fail
          go_region_law (refine step_append_lies _ (by rfl) _ _ 24 (by rfl) BS 40 i0 (.agg #[.int .i64 0, .int .i64 0]) 2 16 Try.underlying24 hi0 hz0 hz1 hz2 rfl (by omega) (.slice (some ⟨g, 0, none⟩) l cap2) l (qs.flatMap PairV.cells) (by rfl) (by exact own_later (w := wr.drew) (unhide HO) ((Below.refl _ _).alloc (Nat.le_refl _) _)) ⟨wr.heap.size, 0, none⟩ 1 1 (PairV.cells r.swap) (by rfl) rfl (World.news_of_block (heap_alloc_new _ _)) (by simp [PairV.cells, Value.oneCell']) (by omega) (by unfold maxLen; omega) (by omega) (by simp; omega) (wr.heap.size + 1) (by simp) ?_; intro g3 cap3 w3 ho3 hg3 hat3 hlt3)
          all_goals
            go_wp2_with fail
            go_roundw
            case rel => exact ⟨q, g3, l + 1, cap3, qs ++ [r.swap], by omega, rfl, by rw [unhide HTS, unhide HQS], by rw [List.length_append, unhide HQL]; rfl, by omega, rfl, by rw [List.flatMap_append]; exact ho3, (((unhide HB).drew.alloc (unhide HB).size _).grown hg3 (by simp; omega) (fun k hk => by have := own_base (unhide HO); simp [Value.ownBlock] at hk; omega)), by have := hg3.size; simp at this; omega⟩
            case measure => simp [intOf]
end Go.Proofs.Ytmjohalblppgiaa
