/- Transitive, of the model and of the program. -/
import Derived.Test.YtmjohalblppgiaaBeside
import Derived.Deep.AppendLies
import Derived.Deep.DeepMust
import Derived.Deep.RegionWith
namespace Go.Proofs.Ytmjohalblppgiaa
open Go.RowKit
set_option linter.unusedVariables false

theorem trans_miss (ps : List PairV) (l : List Int) (i j k : Nat) (hi : i < l.length) (hj : j < l.length) (hk : k < l.length) (h : badThree ps (l.getD i default) (l.getD j default) (l.getD k default) = true) : transB ps l = false := by
  unfold transB
  refine all_miss _ _ i hi ?_
  refine all_miss _ _ j hj ?_
  refine all_miss _ _ k hk ?_
  rw [h]
  rfl
set_option maxHeartbeats 2000000 in
theorem specTransitive_any (a : Option Addr) (n c : Nat) (ps : List PairV) (a' : Option Addr) (n' c' : Nat) (l : List Int) (w : World) (hr : RdR PairV.cells 2 w a n ps) (hr' : Rd w a' n' l) (hn : n ≤ 1048600) (hn' : n' ≤ 1048600) :
    Calls Try.prog 18 #[.slice a n c, .slice a' n' c'] w fun e w' => e = .returned (.bool (transB ps l)) ∧ Below w.heap.size w w' := by
  have HR := hide hr
  have HR' := hide hr'
  have HL : Hid (l.length = n') := hr'.1
  clear hr hr'
  go_enter Try.func18, Try.ntmps18
  go_wp2
  go_loopw [5] (fun i wr => ∃ k : Nat, k ≤ n' ∧ i = .int .i64 k ∧ (l.take k).all (fun x => l.all fun y => l.all fun z => ! badThree ps x y z) = true ∧ Below w.heap.size w wr) (fun i _ => n' - (intOf i).toNat)
  case atStart => exact ⟨0, Nat.zero_le _, rfl, rfl, Below.refl _ _⟩
  case round =>
    obtain ⟨i, hi, rfl, hd, hbel⟩ := hrel
    have HD := hide hd
    have HB := hide hbel
    clear hd hbel
    by_cases hlt : i < n'
    case neg =>
      have HE := hide (take_all_end l _ i (by rw [unhide HL]; omega) (unhide HD))
      go_wp2
      go_ret
      exact ⟨ret_bool (unhide HE).symm, unhide HB⟩
    go_wp2
    go_loopw [6] (fun j wr => ∃ k : Nat, k ≤ n' ∧ j = .int .i64 k ∧ (l.take k).all (fun y => l.all fun z => ! badThree ps (l.getD i default) y z) = true ∧ Below w.heap.size w wr) (fun i _ => n' - (intOf i).toNat)
    case atStart => exact ⟨0, Nat.zero_le _, rfl, rfl, unhide HB⟩
    case round =>
      obtain ⟨j, hj, rfl, hd, hbel⟩ := hrel
      have HD2 := hide hd
      have HB2 := hide hbel
      clear hd hbel HB
      by_cases hlt2 : j < n'
      case neg =>
        have HE := hide (take_all_end l _ j (by rw [unhide HL]; omega) (unhide HD2))
        have HS := hide (take_all_step l (fun x => l.all fun y => l.all fun z => ! badThree ps x y z) i (by rw [unhide HL]; exact hlt))
        go_wp2
        go_roundw
        case rel => exact ⟨i + 1, by omega, by go_num, by rw [unhide HS, unhide HD, unhide HE]; rfl, unhide HB2⟩
        case measure => simp [intOf]; omega
      go_wp2
      go_loopw [7] (fun j3 wr => ∃ k : Nat, k ≤ n' ∧ j3 = .int .i64 k ∧ (l.take k).all (fun z => ! badThree ps (l.getD i default) (l.getD j default) z) = true ∧ Below w.heap.size w wr) (fun i _ => n' - (intOf i).toNat)
      case atStart => exact ⟨0, Nat.zero_le _, rfl, rfl, unhide HB2⟩
      case round =>
        obtain ⟨k, hk, rfl, hd, hbel⟩ := hrel
        have HD3 := hide hd
        have HB3 := hide hbel
        clear hd HB2
        by_cases hlt3 : k < n'
        case neg =>
          have HE := hide (take_all_end l _ k (by rw [unhide HL]; omega) (unhide HD3))
          have HS := hide (take_all_step l (fun y => l.all fun z => ! badThree ps (l.getD i default) y z) j (by rw [unhide HL]; exact hlt2))
          clear hbel
          go_wp2
          go_roundw
          case rel => exact ⟨j + 1, by omega, by go_num, by rw [unhide HS, unhide HD2, unhide HE]; rfl, unhide HB3⟩
          case measure => simp [intOf]; omega
        have HM := hide (trans_miss ps l i j k (by rw [unhide HL]; exact hlt) (by rw [unhide HL]; exact hlt2) (by rw [unhide HL]; exact hlt3))
        have HS := hide (take_all_step l (fun z => ! badThree ps (l.getD i default) (l.getD j default) z) k (by rw [unhide HL]; exact hlt3))
        have hq := (unhide HR').mono hbel
        have HQ := hide ((unhide HR).mono (by omega) PairV.len hbel)
        obtain ⟨b, off, rfl, hc1⟩ := hq.2 i hlt
        obtain ⟨b2, off2, e2, hc2⟩ := hq.2 j hlt2
        obtain ⟨b3, off3, e3, hc3⟩ := hq.2 k hlt3
        cases e2
        cases e3
        rw [show l.getD i 0 = l.getD i default from rfl] at hc1
        rw [show l.getD j 0 = l.getD j default from rfl] at hc2
        rw [show l.getD k 0 = l.getD k default from rfl] at hc3
        generalize hx : l.getD i default = x at *
        generalize hy : l.getD j default = y at *
        generalize hz : l.getD k default = z at *
        have HX := hide hx
        have HY := hide hy
        clear hx hy hz hq hbel
        have HBAD : Hid (badThree ps x y z = (besB ps x y && besB ps y z && ! besB ps x z)) := rfl
        cases g1 : besB ps x y
        case false =>
          go_wp2_with fail
          go_quiet ((first | (go_at_call_of 23 (Value.int IntKind.i64 x); go_at_call_of 23 (Value.int IntKind.i64 y); exact Calls.quiet_of_same (specBeside_at g1 (unhide HQ) hn _))))
          go_wp2_with fail
          go_roundw
          case rel => exact ⟨k + 1, by omega, by go_num, by rw [unhide HS, unhide HD3, unhide HBAD, g1]; rfl, below_drewN (unhide HB3) _⟩
          case measure => simp [intOf]; omega
        cases g2 : besB ps y z
        case false =>
          go_wp2_with fail
          go_quiet ((first | (go_at_call_of 23 (Value.int IntKind.i64 x); go_at_call_of 23 (Value.int IntKind.i64 y); exact Calls.quiet_of_same (specBeside_at g1 (unhide HQ) hn _)) | (go_at_call_of 23 (Value.int IntKind.i64 y); go_at_call_of 23 (Value.int IntKind.i64 z); exact Calls.quiet_of_same (specBeside_at g2 (unhide HQ) hn _))))
          go_wp2_with fail
          go_roundw
          case rel => exact ⟨k + 1, by omega, by go_num, by rw [unhide HS, unhide HD3, unhide HBAD, g1, g2]; rfl, below_drewN (unhide HB3) _⟩
          case measure => simp [intOf]; omega
        cases g3 : besB ps x z
        case true =>
          go_wp2_with fail
          go_quiet ((first | (go_at_call_of 23 (Value.int IntKind.i64 x); go_at_call_of 23 (Value.int IntKind.i64 y); exact Calls.quiet_of_same (specBeside_at g1 (unhide HQ) hn _)) | (go_at_call_of 23 (Value.int IntKind.i64 y); go_at_call_of 23 (Value.int IntKind.i64 z); exact Calls.quiet_of_same (specBeside_at g2 (unhide HQ) hn _)) | (go_at_call_of 23 (Value.int IntKind.i64 x); go_at_call_of 23 (Value.int IntKind.i64 z); exact Calls.quiet_of_same (specBeside_at g3 (unhide HQ) hn _))))
          go_wp2_with fail
          go_roundw
          case rel => exact ⟨k + 1, by omega, by go_num, by rw [unhide HS, unhide HD3, unhide HBAD, g1, g2, g3]; rfl, below_drewN (unhide HB3) _⟩
          case measure => simp [intOf]; omega
        case false =>
          go_wp2_with fail
          go_quiet ((first | (go_at_call_of 23 (Value.int IntKind.i64 x); go_at_call_of 23 (Value.int IntKind.i64 y); exact Calls.quiet_of_same (specBeside_at g1 (unhide HQ) hn _)) | (go_at_call_of 23 (Value.int IntKind.i64 y); go_at_call_of 23 (Value.int IntKind.i64 z); exact Calls.quiet_of_same (specBeside_at g2 (unhide HQ) hn _)) | (go_at_call_of 23 (Value.int IntKind.i64 x); go_at_call_of 23 (Value.int IntKind.i64 z); exact Calls.quiet_of_same (specBeside_at g3 (unhide HQ) hn _))))
          go_wp2_with fail
          go_ret
          exact ⟨ret_bool ((unhide HM) (by rw [unhide HBAD, g1, g2, g3]; rfl)).symm, below_drewN (unhide HB3) _⟩
theorem flat_at {α : Type} [Inhabited α] {cells : α → List Value} {k : Nat} (hlen : ∀ q, (cells q).length = k) : ∀ (xs : List α) (i j : Nat), i < xs.length → j < k → (xs.flatMap cells)[i * k + j]? = (cells (xs.getD i default))[j]?
  | [], i, j, hi, _ => absurd hi (Nat.not_lt_zero _)
  | x :: xs, 0, j, _, hj => by
    rw [List.flatMap_cons, List.getElem?_append_left (by rw [hlen]; omega)]
    simp
  | x :: xs, i + 1, j, hi, hj => by
    have e : (i + 1) * k + j = k + (i * k + j) := by rw [Nat.succ_mul]; omega
    rw [List.flatMap_cons, List.getElem?_append_right (by rw [hlen]; omega), hlen, e, Nat.add_sub_cancel_left, flat_at hlen xs i j (by simpa using hi) hj]
    simp
theorem RdR.flat {α : Type} [Inhabited α] {cells : α → List Value} {k : Nat} (hlen : ∀ q, (cells q).length = k) {w : World} {base e cap n g : Nat} {xs : List α} (hl : xs.length = n)
    (h : w.ownsRow base e k (.slice (some ⟨g, 0, none⟩) n cap) n (xs.flatMap cells)) : RdR cells k w (some ⟨g, 0, none⟩) n xs := by
  subst hl
  exact RdR.of_owns h rfl fun i hi j hj => flat_at hlen xs i j hi hj
theorem Try.infoPairI : (Try.prog.info? 40).map (fun i => (i.zero, i.size, i.bytes)) = some (some (.agg #[.int .i64 0, .int .i64 0]), 2, 16) := by kernel_rfl
theorem take_fold {α β : Type} [Inhabited α] (f : β → α → β) (z : β) (xs : List α) (k : Nat) (h : k < xs.length) : (xs.take (k + 1)).foldl f z = f ((xs.take k).foldl f z) (xs.getD k default) := by
  rw [List.take_succ_eq_append_getElem h, List.foldl_append]
  simp [h]
theorem amStep_len (l : List Int) (am : List PairV) (p : PairV) : (amStep l am p).length ≤ am.length + 1 := by
  unfold amStep
  split <;> simp
theorem own_grown {w w' : World} {B e k n g cap : Nat} {xs : List Value} (h : w.ownsRow B e k (.slice (some ⟨g, 0, none⟩) n cap) n xs) (hb : Below w.heap.size w w') : w'.ownsRow B e k (.slice (some ⟨g, 0, none⟩) n cap) n xs := own_later h hb
set_option maxHeartbeats 2000000 in
theorem pairsAmong_any (a : Option Addr) (n c : Nat) (ps : List PairV) (a' : Option Addr) (n' c' : Nat) (l : List Int) (w : World) (hr : RdR PairV.cells 2 w a n ps) (hr' : Rd w a' n' l) (hn : n ≤ 1048600) (hn' : n' ≤ 1048600) :
    Calls Try.prog 37 #[.slice a n c, .slice a' n' c'] w fun e w' => ∃ g m cap, e = .returned (.slice (some ⟨g, 0, none⟩) m cap) ∧ m ≤ n ∧ RdR PairV.cells 2 w' (some ⟨g, 0, none⟩) m (amL ps l) ∧ Below w.heap.size w w' := by
  obtain ⟨i0, hi0, hz0, hz1, hz2⟩ := info_parts Try.infoPairI
  have HR := hide hr
  have HR' := hide hr'
  clear hr hr'
  have HO0 := hide (World.ownsRow_lit w #[] (e := 40) (size := 2) 0 (Nat.le_refl _) (Nat.zero_le _) rfl)
  go_enter Try.func37, Try.ntmps37
  go_wp2
  go_loopw [5, 11] (fun o i wr => ∃ (k g m cap : Nat) (am : List PairV), k ≤ n ∧ i = .int .i64 k ∧ am = (ps.take k).foldl (amStep l) [] ∧ am.length = m ∧ m ≤ k ∧ o = .slice (some ⟨g, 0, none⟩) m cap ∧ wr.ownsRow w.heap.size 40 2 (.slice (some ⟨g, 0, none⟩) m cap) m (am.flatMap PairV.cells) ∧ Below w.heap.size w wr) (fun _ i _ => n - (intOf i).toNat)
  case atStart => exact ⟨0, w.heap.size, 0, 0, [], Nat.zero_le _, rfl, rfl, rfl, Nat.le_refl _, rfl, unhide HO0, (Below.refl _ _).alloc (Nat.le_refl _) _⟩
  case round =>
    clear HO0
    obtain ⟨k, g, m, cap, am, hk, rfl, ham, hlen, hmk, rfl, how, hbel⟩ := hrel
    have HA := hide ham
    have HL := hide hlen
    have HO := hide how
    have HB := hide hbel
    clear ham hlen how hbel
    by_cases hlt : k < n
    case neg =>
      go_wp2
      go_ret
      refine ⟨g, m, cap, rfl, by omega, ?_, unhide HB⟩
      have e : am = amL ps l := by rw [unhide HA, List.take_of_length_le (by rw [(unhide HR).1]; omega)]; rfl
      rw [← e]
      exact RdR.flat PairV.len (unhide HL) (unhide HO)
    obtain ⟨b, off, rfl, hc⟩ := ((unhide HR).mono (by omega) PairV.len (unhide HB)).2 k hlt
    have HF := hide (take_fold (amStep l) [] ps k (by rw [(unhide HR).1]; exact hlt))
    have HS := hide (amStep_len l am (ps.getD k default))
    generalize ps.getD k default = q at hc HF HS
    have d0 : wr.cell? ⟨b, off + k * 2, none⟩ = some (.int .i64 q.a) := hc 0 (by omega)
    have d1 : wr.cell? ⟨b, off + k * 2 + 1, none⟩ = some (.int .i64 q.b) := hc 1 (by omega)
    clear hc
    go_wp2_with fail
    refine (containsInt_any _ n' c' l q.a _ ((unhide HR').mono ((unhide HB).alloc (unhide HB).size _)) hn').mono ?_
    rintro e w1 ⟨rfl, rfl⟩
    have B1 : Hid (Below w.heap.size w (wr.alloc (.cells #[.int .i64 q.a, .int .i64 q.b] 40))) := (unhide HB).alloc (unhide HB).size _
    have O1 := hide (own_later (unhide HO) ((Below.refl _ wr).alloc (Nat.le_refl _) (.cells #[.int .i64 q.a, .int .i64 q.b] 40)))
    have K1 : Hid (Blk (wr.alloc (.cells #[.int .i64 q.a, .int .i64 q.b] 40)) wr.heap.size (PairV.cells q)) := Blk.allocAt (PairV.cells q) rfl
    clear HO HB d0 d1
    have HST : Hid (amStep l am q = if hasI l q.a && hasI l q.b && ! besB am q.a q.b then am ++ [q] else am) := rfl
    cases h1 : hasI l q.a
    case false =>
      go_wp2_with fail
      go_roundw
      case rel => exact ⟨k + 1, g, m, cap, am, by omega, by go_num, by rw [unhide HF, ← unhide HA, unhide HST, h1]; rfl, unhide HL, by omega, rfl, unhide O1, unhide B1⟩
      case measure => simp [intOf]; omega
    have c1 : (wr.alloc (.cells #[.int .i64 q.a, .int .i64 q.b] 40)).cell? ⟨wr.heap.size, 1, none⟩ = some (.int .i64 q.b) := ((unhide K1) 1 (by simp [PairV.cells])).1
    go_wp2_with fail
    refine (containsInt_any _ n' c' l q.b _ ((unhide HR').mono (unhide B1)) hn').mono ?_
    rintro e w1 ⟨rfl, rfl⟩
    cases h2 : hasI l q.b
    case false =>
      go_wp2_with fail
      go_roundw
      case rel => exact ⟨k + 1, g, m, cap, am, by omega, by go_num, by rw [unhide HF, ← unhide HA, unhide HST, h1, h2]; rfl, unhide HL, by omega, rfl, unhide O1, unhide B1⟩
      case measure => simp [intOf]; omega
    go_wp2_with fail
    refine (containsPair_any _ m cap am q.a q.b _ (RdR.flat PairV.len (unhide HL) (unhide O1)) (by omega)).mono ?_
    rintro e w2 ⟨rfl, hb2⟩
    have B2 := hide ((unhide B1).trans (hb2.mono (unhide B1).size))
    have O2 := hide (own_later (unhide O1) hb2)
    have K2 := Blk.below hb2 (by simp) (unhide K1)
    have e0 : w2.cell? ⟨wr.heap.size, 0, none⟩ = some (.int .i64 q.a) := (K2 0 (by simp [PairV.cells])).1
    have e1 : w2.cell? ⟨wr.heap.size, 1, none⟩ = some (.int .i64 q.b) := (K2 1 (by simp [PairV.cells])).1
    clear B1 O1 K1 K2 c1 hb2
    cases h3 : besB am q.a q.b
    case true =>
      go_wp2_with fail
      go_roundw
      case rel => exact ⟨k + 1, g, m, cap, am, by omega, by go_num, by rw [unhide HF, ← unhide HA, unhide HST, h1, h2, h3]; rfl, unhide HL, by omega, rfl, unhide O2, unhide B2⟩
      case measure => simp [intOf]; omega
    have hz := (unhide B2).size
    go_wp2_with (first
      | (at_builtin; refine wpList_append_lies _ rfl _ _ 24 rfl w.heap.size 40 i0 (.agg #[.int .i64 0, .int .i64 0]) 2 16 Try.underlying24 hi0 hz0 hz1 hz2 rfl (by omega) (.slice (some ⟨g, 0, none⟩) m cap) m (am.flatMap PairV.cells) rfl (own_later (unhide O2) ((Below.refl _ _).alloc (Nat.le_refl _) _)) ⟨w2.heap.size, 0, none⟩ 1 1 (PairV.cells q) rfl rfl (World.news_of_block (heap_alloc_new _ _)) (by simp [PairV.cells, Value.oneCell']) (by omega) (by unfold maxLen; omega) (by omega) (by simp; omega) (w2.heap.size + 1) (by simp) ?_; intro g3 cap3 w3 ho3 hg3 hat3 hlt3)
      | go_in)
    have B3 : Hid (Below w.heap.size w w3) := ((unhide B2).alloc (unhide B2).size _).grown hg3 (by simp; omega) (fun k hk => by have := own_base (unhide O2); simp [Value.ownBlock] at hk; omega)
    have O3 := hide ho3
    clear ho3 hg3 hat3 hlt3
    go_wp2_with fail
    go_roundw
    case rel => exact ⟨k + 1, g3, m + 1, cap3, am ++ [q], by omega, by go_num, by rw [unhide HF, ← unhide HA, unhide HST, h1, h2, h3]; rfl, by rw [List.length_append, unhide HL]; rfl, by omega, rfl, by rw [List.flatMap_append]; exact unhide O3, unhide B3⟩
    case measure => simp [intOf]; omega
theorem am_miss (am : List PairV) (i j : Nat) (hi : i < am.length) (hj : j < am.length) (h : badTwo am (am.getD i default) (am.getD j default) = true) : transAm am = false := by
  unfold transAm
  refine all_miss _ _ i hi ?_
  refine all_miss _ _ j hj ?_
  rw [h]
  rfl
set_option maxHeartbeats 2000000 in
theorem transitive_any (a : Option Addr) (n c : Nat) (ps : List PairV) (a' : Option Addr) (n' c' : Nat) (l : List Int) (w : World) (hr : RdR PairV.cells 2 w a n ps) (hr' : Rd w a' n' l) (hn : n ≤ 1048600) (hn' : n' ≤ 1048600) :
    Calls Try.prog 17 #[.slice a n c, .slice a' n' c'] w fun e w' => e = .returned (.bool (transB ps l)) ∧ Below w.heap.size w w' := by
  have HT := hide (trans_am ps l)
  go_enter Try.func17, Try.ntmps17
  go_wp2_with fail
  refine (pairsAmong_any a n c ps a' n' c' l w hr hr' hn hn').mono ?_
  rintro e w1 ⟨g, m, cap, rfl, hm, hr1, hb1⟩
  have HR := hide hr1
  have HB := hide hb1
  clear hr1 hb1 hr hr'
  generalize amL ps l = am at HT HR
  have HL : Hid (am.length = m) := (unhide HR).1
  go_wp2
  go_loopw [15] (fun i wr => ∃ k : Nat, k ≤ m ∧ i = .int .i64 k ∧ (am.take k).all (fun p => am.all fun q => ! badTwo am p q) = true ∧ Below w1.heap.size w1 wr) (fun i _ => m - (intOf i).toNat)
  case atStart => exact ⟨0, Nat.zero_le _, rfl, rfl, Below.refl _ _⟩
  case round =>
    obtain ⟨i, hi, rfl, hd, hbel⟩ := hrel
    have HD := hide hd
    have HB1 := hide hbel
    clear hd hbel
    by_cases hlt : i < m
    case neg =>
      have HE : Hid (transAm am = true) := take_all_end am _ i (by rw [unhide HL]; omega) (unhide HD)
      go_wp2
      go_ret
      exact ⟨ret_bool ((unhide HE).symm.trans (unhide HT)), (unhide HB).trans ((unhide HB1).mono (unhide HB).size)⟩
    obtain ⟨b, off, e0, hc⟩ := ((unhide HR).mono (by omega) PairV.len (unhide HB1)).2 i hlt
    cases e0
    have HM := hide (am_miss am i)
    have HS := hide (take_all_step am (fun p => am.all fun q => ! badTwo am p q) i (by rw [unhide HL]; exact hlt))
    generalize am.getD i default = p at hc HM HS
    have d0 : wr.cell? ⟨g, 0 + i * 2, none⟩ = some (.int .i64 p.a) := hc 0 (by omega)
    have d1 : wr.cell? ⟨g, 0 + i * 2 + 1, none⟩ = some (.int .i64 p.b) := hc 1 (by omega)
    rw [Nat.zero_add] at d0 d1
    have B2 : Hid (Below w1.heap.size w1 (wr.alloc (.cells #[.int .i64 p.a, .int .i64 p.b] 40))) := (unhide HB1).alloc (unhide HB1).size _
    have K2 : Hid (Blk (wr.alloc (.cells #[.int .i64 p.a, .int .i64 p.b] 40)) wr.heap.size (PairV.cells p)) := Blk.allocAt (PairV.cells p) rfl
    have hz : w1.heap.size ≤ wr.heap.size := (unhide HB1).size
    clear hc HB1
    go_wp2
    generalize hP : wr.heap.size = P at *
    go_loopw [21] (fun j w3 => ∃ k : Nat, k ≤ m ∧ j = .int .i64 k ∧ (am.take k).all (fun q => ! badTwo am p q) = true ∧ Below w1.heap.size w1 w3 ∧ Blk w3 P (PairV.cells p) ∧ P < w3.heap.size) (fun i _ => m - (intOf i).toNat)
    case atStart => exact ⟨0, Nat.zero_le _, rfl, rfl, unhide B2, unhide K2, by simp [hP]⟩
    case round =>
      clear B2 K2 d0 d1 hP hz
      obtain ⟨j, hj, rfl, hd, hbel, hblk, hpz⟩ := hrel
      have HD2 := hide hd
      have HB2 := hide hbel
      have HK := hide hblk
      clear hd
      by_cases hlt2 : j < m
      case neg =>
        have HE := hide (take_all_end am _ j (by rw [unhide HL]; omega) (unhide HD2))
        clear hbel hblk
        go_wp2
        go_roundw
        case rel => exact ⟨i + 1, by omega, by go_num, by rw [unhide HS, unhide HD, unhide HE]; rfl, unhide HB2⟩
        case measure => simp [intOf]; omega
      obtain ⟨b, off, e0, hc⟩ := ((unhide HR).mono (by omega) PairV.len hbel).2 j hlt2
      cases e0
      have HM2 := hide ((unhide HM) j (by rw [unhide HL]; exact hlt) (by rw [unhide HL]; exact hlt2))
      have HS2 := hide (take_all_step am (fun q => ! badTwo am p q) j (by rw [unhide HL]; exact hlt2))
      generalize am.getD j default = q at hc HM2 HS2
      have d0 : wr.cell? ⟨g, 0 + j * 2, none⟩ = some (.int .i64 q.a) := hc 0 (by omega)
      have d1 : wr.cell? ⟨g, 0 + j * 2 + 1, none⟩ = some (.int .i64 q.b) := hc 1 (by omega)
      rw [Nat.zero_add] at d0 d1
      have K3 := hblk.allocOld hpz (.cells #[.int .i64 q.a, .int .i64 q.b] 40)
      have p0 : (wr.alloc (.cells #[.int .i64 q.a, .int .i64 q.b] 40)).cell? ⟨P, 0, none⟩ = some (.int .i64 p.a) := (K3 0 (by simp [PairV.cells])).1
      have p1 : (wr.alloc (.cells #[.int .i64 q.a, .int .i64 q.b] 40)).cell? ⟨P, 1, none⟩ = some (.int .i64 p.b) := (K3 1 (by simp [PairV.cells])).1
      have HK3 := hide K3
      have B3 : Hid (Below w1.heap.size w1 (wr.alloc (.cells #[.int .i64 q.a, .int .i64 q.b] 40))) := (unhide HB2).alloc (unhide HB2).size _
      have hpz3 : P < (wr.alloc (.cells #[.int .i64 q.a, .int .i64 q.b] 40)).heap.size := by simp; omega
      have HBAD : Hid (badTwo am p q = ((p.b == q.a) && ! besB am p.a q.b)) := by unfold badTwo; rfl
      clear hc hbel hblk K3 HB2 HK
      cases g1 : (p.b == q.a)
      case false =>
        go_wp2_with fail
        go_roundw
        case rel => exact ⟨j + 1, by omega, by go_num, by rw [unhide HS2, unhide HD2, unhide HBAD, g1]; rfl, unhide B3, unhide HK3, hpz3⟩
        case measure => simp [intOf]; omega
      go_wp2_with fail
      refine (beside_any _ m cap am p.a q.b _ ((unhide HR).mono (by omega) PairV.len (unhide B3)) (by omega)).mono ?_
      rintro e w4 ⟨rfl, hb4⟩
      have B4 := hide ((unhide B3).trans (hb4.mono (unhide B3).size))
      have K4 := hide (Blk.below hb4 hpz3 (unhide HK3))
      have hz4 := hb4.size
      clear hb4 B3 HK3 p0 p1 d0 d1
      cases g2 : besB am p.a q.b
      case true =>
        go_wp2_with fail
        go_roundw
        case rel => exact ⟨j + 1, by omega, by go_num, by rw [unhide HS2, unhide HD2, unhide HBAD, g1, g2]; rfl, unhide B4, unhide K4, by omega⟩
        case measure => simp [intOf]; omega
      have HE : Hid (transAm am = false) := (unhide HM2) (by rw [unhide HBAD, g1, g2]; rfl)
      go_wp2_with fail
      go_ret
      exact ⟨ret_bool ((unhide HE).symm.trans (unhide HT)), (unhide HB).trans ((unhide B4).mono (unhide HB).size)⟩
end Go.Proofs.Ytmjohalblppgiaa
