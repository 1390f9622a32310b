/- The model's sort of places by their keys: l1Places, l1Merge, SortUp, SortDown. -/
import Derived.Test.YtcblpoeeembniaaSortRow
import Derived.Test.YtcblpoeeembniaaMergePlain
import Derived.WalkSpells
namespace Go.Proofs.Ytcblpoeeembniaa
open Go.RowKit

theorem app_int {w wr w1 : World} {g cap n : Nat} {v' : Value} {ps : List Nat} {x : Nat} {t : TypeId} (hn : ps.length = n)
 (hown : wr.ownsRow w.heap.size 3 1 (.slice (some ⟨g, 0, none⟩) n cap) n (cellsN ps)) (hbel : Below w.heap.size w wr)
 (h1 : w1.ownsRow w.heap.size 3 1 v' (n + 1) (cellsN ps ++ [.int .i64 (x : Int)])) (h2 : (wr.alloc (.cells #[.int .i64 (x : Int)] t)).grownBy w1 (Value.slice (some ⟨g, 0, none⟩) n cap).ownBlock)
 (h3 : v' = .slice none 0 0 ↔ Value.slice (some ⟨g, 0, none⟩) n cap = .slice none 0 0 ∧ 1 = 0) :
 ∃ g' cap', v' = .slice (some ⟨g', 0, none⟩) (ps ++ [x]).length cap' ∧ w1.ownsRow w.heap.size 3 1 (.slice (some ⟨g', 0, none⟩) (ps ++ [x]).length cap') (ps ++ [x]).length (cellsN (ps ++ [x])) ∧ Below w.heap.size w w1 := by
 have hne : ¬ v' = .slice none 0 0 := fun h => by have := (h3.1 h).2; omega
 obtain ⟨g', cap', rfl⟩ := own_shape h1 hne
 have hl : (ps ++ [x]).length = n + 1 := by simp [hn]
 refine ⟨g', cap', by rw [hl], ?_, ?_⟩
 · rw [hl]; simpa [cellsN] using h1
 · refine (hbel.alloc hbel.size (.cells #[.int .i64 (x : Int)] t)).grown h2 (by have := hbel.size; simp; omega) ?_
   intro j hj
   have : g = j := by simpa [Value.ownBlock] using hj
   rw [← this]
   exact own_base hown

set_option maxHeartbeats 800000 in
theorem l1Places_any (n : Nat) (w : World) (hn : n ≤ 1048576) :
 Calls Try.prog 58 #[.int .i64 (n : Int)] w fun e w' => ∃ g cap, e = .returned (.slice (some ⟨g, 0, none⟩) n cap) ∧
  w'.ownsRow w.heap.size 3 1 (.slice (some ⟨g, 0, none⟩) n cap) n (cellsN (List.range n)) ∧ Below w.heap.size w w' := by
 obtain ⟨i0, hi, hz0, hz1, hz2⟩ := info_parts Try.infoInt
 have hown0 : (w.alloc (.cells #[] 3)).ownsRow w.heap.size 3 1 (.slice (some ⟨w.heap.size, 0, none⟩) 0 0) 0 [] := World.ownsRow_lit w #[] 0 (Nat.le_refl _) (Nat.zero_le _) rfl
 go_enter Try.func58, Try.ntmps58
 go_wp2
 go_loopw [3, 4] (fun o i wr => ∃ k g cap : Nat, k ≤ n ∧ i = .int .i64 (k : Int) ∧ o = .slice (some ⟨g, 0, none⟩) k cap ∧ wr.ownsRow w.heap.size 3 1 (.slice (some ⟨g, 0, none⟩) k cap) k (cellsN (List.range k)) ∧ Below w.heap.size w wr) (fun _ i _ => n - (intOf i).toNat)
 case atStart => exact ⟨0, w.heap.size, 0, Nat.zero_le _, rfl, rfl, hown0, (Below.refl _ _).alloc (Nat.le_refl _) _⟩
 case round =>
  obtain ⟨k, g, cap, hk, rfl, rfl, hown, hbel⟩ := hrel
  clear hown0
  have hsz := hbel.size
  by_cases hlt : k < n
  · have hl : (List.range k).length = k := List.length_range
    have HL := hide hl
    clear hl
    go_wp2_with (first
     | (at_builtin; refine wpList_append_own _ rfl _ _ 49 rfl w.heap.size 3 i0 (.int .i64 0) 1 8 Try.underlying49 hi hz0 hz1 hz2 rfl (by decide) (.slice (some ⟨g, 0, none⟩) k cap) k (cellsN (List.range k)) rfl (hown.alloc _) ⟨wr.heap.size, 0, none⟩ 1 1 [.int .i64 (k : Int)] rfl rfl (cell_one_new _ _ _) (by simp [Value.oneCell']) (by unfold maxLen; omega) (by omega) (by simp; omega) ?_; intro v' w1 h1 h2 h3)
     | go_in)
    obtain ⟨g', cap', hv, ho, hb⟩ := app_int HL.out hown hbel h1 h2 h3
    have hlen : (List.range k ++ [k]).length = k + 1 := by simp
    rw [hlen] at hv ho
    go_roundw
    case rel => exact ⟨k + 1, g', cap', by omega, by go_num, hv, by rw [List.range_succ]; exact ho, hb⟩
    case measure => simp [intOf]; omega
  · have hkn : k = n := by omega
    subst hkn
    go_wp2
    go_ret
    exact ⟨g, cap, rfl, hown, hbel⟩

def MergeSaid (N : Nat) : Prop :=
 ∀ (ps : List Nat) (b off cap n : Nat) (ak : Option Addr) (nk ck : Nat) (keys : List Int) (dn : Bool) (w : World), ps.length = n → n ≤ N → n ≤ cap → cap ≤ 9223372036854775807 → n ≤ 1048576 → ps.Pairwise (· < ·) → (∀ p ∈ ps, p < nk) → nk ≤ 1048576 → Rd w ak nk keys → Rd w (some ⟨b, off, none⟩) n (ints ps) →
  Calls Try.prog 57 #[.slice ak nk ck, .slice (some ⟨b, off, none⟩) n cap, .bool dn] w fun e w' => ∃ g c, e = .returned (.slice (some ⟨g, 0, none⟩) n c) ∧
   w'.ownsRow w.heap.size 3 1 (.slice (some ⟨g, 0, none⟩) n c) n (cellsN (sortP keys dn ps)) ∧ Below w.heap.size w w'

set_option maxRecDepth 100000 in
set_option maxHeartbeats 1600000 in
/-- Fewer than two places: a copy. -/
theorem merge_short (ps : List Nat) (b off cap n : Nat) (ak : Option Addr) (nk ck : Nat) (keys : List Int) (dn : Bool) (w : World) (hl : ps.length = n) (hn : n < 2) (hr : Rd w (some ⟨b, off, none⟩) n (ints ps)) :
 Calls Try.prog 57 #[.slice ak nk ck, .slice (some ⟨b, off, none⟩) n cap, .bool dn] w fun e w' => ∃ g c, e = .returned (.slice (some ⟨g, 0, none⟩) n c) ∧
  w'.ownsRow w.heap.size 3 1 (.slice (some ⟨g, 0, none⟩) n c) n (cellsN (sortP keys dn ps)) ∧ Below w.heap.size w w' := by
 obtain ⟨i0, hi, hz0, hz1, hz2⟩ := info_parts Try.infoInt
 have hown0 : (w.alloc (.cells #[] 3)).ownsRow w.heap.size 3 1 (.slice (some ⟨w.heap.size, 0, none⟩) 0 0) 0 [] := World.ownsRow_lit w #[] 0 (Nat.le_refl _) (Nat.zero_le _) rfl
 have hb0 : Below w.heap.size w (w.alloc (.cells #[] 3)) := (Below.refl _ _).alloc (Nat.le_refl _) _
 rw [sortP_short keys dn ps (by omega)]
 have hr1 := hr.mono hb0
 have hnews : ∀ j u, (cellsN ps)[j]? = some u → (w.alloc (.cells #[] 3)).cell? ((⟨b, off, none⟩ : Addr).add j) = some u := by
  intro j u hj
  have hjl : j < ps.length := by have := (List.getElem?_eq_some_iff.1 hj).1; simpa [cellsN] using this
  have hcj := hr1.cell j (by omega) hjl
  rw [cellsN_at ps j hjl] at hj
  have ea : (⟨b, off, none⟩ : Addr).add j = ⟨b, off + j, none⟩ := by
   unfold Addr.add
   split
   · next h => subst h; rfl
   · rfl
  rw [ea, hcj]; exact hj
 have hone : ∀ u ∈ cellsN ps, u.oneCell' = true := by
  intro u hu
  obtain ⟨p, _, rfl⟩ := List.mem_map.1 hu
  rfl
 have hcl : (cellsN ps).length = n * 1 := by simp [cellsN, hl]
 have hlt : (n : Int) < 2 := by omega
 have HR1 := hide hr1
 have HNEWS := hide hnews
 clear hr hr1 hnews
 go_enter Try.func57, Try.ntmps57
 go_wp2_with (first
  | (at_builtin; refine wpList_append_own _ rfl _ _ 49 rfl w.heap.size 3 i0 (.int .i64 0) 1 8 Try.underlying49 hi hz0 hz1 hz2 rfl (by decide) (.slice (some ⟨w.heap.size, 0, none⟩) 0 0) 0 [] rfl hown0 ⟨b, off, none⟩ n cap (cellsN ps) rfl hcl HNEWS.out hone (by unfold maxLen; omega) (by omega) (by simp) ?_; intro v' w1 h1 h2 h3)
  | go_in)
 have hne : ¬ v' = .slice none 0 0 := fun h => by have := (h3.1 h).1; cases this
 have h1' : w1.ownsRow w.heap.size 3 1 v' n (cellsN ps) := by simpa using h1
 obtain ⟨g', cap', hv⟩ := own_shape h1' hne
 rw [hv] at h1' ⊢
 have hb : Below w.heap.size w w1 := hb0.grown h2 (by simp) (by intro j hj; have : w.heap.size = j := by simpa [Value.ownBlock] using hj
                                                                omega)
 clear h1 h2 h3 hne hv
 go_ret
 exact ⟨g', cap', rfl, h1', hb⟩

set_option maxRecDepth 100000 in
set_option maxHeartbeats 6400000 in
/-- Two places or more: each half sorted, the two merged. -/
theorem merge_long (N : Nat) (ih : MergeSaid N) (ps : List Nat) (b off cap n : Nat) (ak : Option Addr) (nk ck : Nat) (keys : List Int) (dn : Bool) (w : World) (hl : ps.length = n) (hN : n ≤ N + 1) (hn2 : 2 ≤ n) (hc : n ≤ cap) (hcm : cap ≤ 9223372036854775807) (hn : n ≤ 1048576) (hps : ps.Pairwise (· < ·)) (hin : ∀ p ∈ ps, p < nk) (hnk : nk ≤ 1048576) (hrk : Rd w ak nk keys) (hr : Rd w (some ⟨b, off, none⟩) n (ints ps)) :
 Calls Try.prog 57 #[.slice ak nk ck, .slice (some ⟨b, off, none⟩) n cap, .bool dn] w fun e w' => ∃ g c, e = .returned (.slice (some ⟨g, 0, none⟩) n c) ∧
  w'.ownsRow w.heap.size 3 1 (.slice (some ⟨g, 0, none⟩) n c) n (cellsN (sortP keys dn ps)) ∧ Below w.heap.size w w' := by
 obtain ⟨i0, hi, hz0, hz1, hz2⟩ := info_parts Try.infoInt
 obtain ⟨h, hh⟩ : ∃ h : Nat, (n : Int) / 2 = (h : Int) := ⟨n / 2, by omega⟩
 have hh1 : 1 ≤ h ∧ h < n ∧ 2 * h ≤ n := by omega
 have hlt : ¬ (n : Int) < 2 := by omega
 have hcne : ¬ cap = h := by omega
 have HIH := hide ih
 have HRK := hide hrk
 have HR := hide hr
 have HIN := hide hin
 have HPS := hide hps
 have HLL := hide hl
 clear ih hrk hr hl hin hps
 go_enter Try.func57, Try.ntmps57
 go_wp2_with fail
 refine (HIH.out (ps.take h) b off cap h ak nk ck keys dn w ?_ ?_ ?_ hcm ?_ ?_ ?_ hnk HRK.out (HR.out.take h (by omega))).mono ?_
 · rw [List.length_take, HLL.out]; omega
 · omega
 · omega
 · omega
 · exact HPS.out.sublist (List.take_sublist _ _)
 · exact fun p hp => HIN.out p (List.mem_of_mem_take hp)
 rintro e w1 ⟨gA, cA, rfl, hoA, hb1⟩
 have HOA := hide hoA
 have HB1 := hide hb1
 clear hoA hb1
 go_wp2_with fail
 refine (HIH.out (ps.drop h) b (off + h) (cap - h) (n - h) ak nk ck keys dn w1 ?_ ?_ ?_ ?_ ?_ ?_ ?_ hnk (HRK.out.mono HB1.out) ((HR.out.mono HB1.out).drop h (by omega))).mono ?_
 · rw [List.length_drop, HLL.out]
 · omega
 · omega
 · omega
 · omega
 · exact HPS.out.sublist (List.drop_sublist _ _)
 · exact fun p hp => HIN.out p (List.mem_of_mem_drop hp)
 rintro e w2 ⟨gB, cB, rfl, hoB, hb2⟩
 have HRA := hide ((Rd.of_cells HOA.out).mono hb2)
 have HRB := hide (Rd.of_cells hoB)
 have HB2 := hide (HB1.out.trans (hb2.mono HB1.out.size))
 have HRK2 := hide ((HRK.out.mono HB1.out).mono hb2)
 have hmrg := merge_sorted keys dn ps h HPS.out
 have hlA : (sortP keys dn (ps.take h)).length = h := by rw [(sortP_perm keys dn _).length_eq, List.length_take, HLL.out]; omega
 have hlB : (sortP keys dn (ps.drop h)).length = n - h := by rw [(sortP_perm keys dn _).length_eq, List.length_drop, HLL.out]
 have hxA : ∀ p ∈ sortP keys dn (ps.take h), p ∈ ps.take h := fun p hp => (sortP_perm keys dn _).mem_iff.1 hp
 have hxB : ∀ p ∈ sortP keys dn (ps.drop h), p ∈ ps.drop h := fun p hp => (sortP_perm keys dn _).mem_iff.1 hp
 have hinA : ∀ p ∈ sortP keys dn (ps.take h), p < nk := fun p hp => HIN.out p (List.mem_of_mem_take (hxA p hp))
 have hinB : ∀ p ∈ sortP keys dn (ps.drop h), p < nk := fun p hp => HIN.out p (List.mem_of_mem_drop (hxB p hp))
 have hAB : ∀ p ∈ sortP keys dn (ps.take h), ∀ q ∈ sortP keys dn (ps.drop h), p < q := by
  intro p hp q hq
  have hpw : (ps.take h ++ ps.drop h).Pairwise (· < ·) := by rw [List.take_append_drop]; exact HPS.out
  exact (List.pairwise_append.1 hpw).2.2 p (hxA p hp) q (hxB q hq)
 generalize hF : sortP keys dn ps = F at *
 generalize sortP keys dn (ps.take h) = A at *
 generalize sortP keys dn (ps.drop h) = B at *
 have HM := hide hmrg
 have HF := hide hF
 have HLA := hide hlA
 have HLB := hide hlB
 have HIA := hide hinA
 have HIB := hide hinB
 have HAB := hide hAB
 have hown0 : (w2.alloc (.cells #[] 3)).ownsRow w2.heap.size 3 1 (.slice (some ⟨w2.heap.size, 0, none⟩) 0 0) 0 [] := World.ownsRow_lit w2 #[] 0 (Nat.le_refl _) (Nat.zero_le _) rfl
 have HO0 := hide hown0
 clear hF hoB hb2 hmrg hlA hlB hinA hinB hAB hxA hxB HOA HB1 HR HIN HPS HLL HRK hown0 HIH
 go_wp2
 go_loopw [10, 11, 12] (fun ov iv jv wr => ∃ (i j g cp : Nat) (o : List Nat), i ≤ h ∧ j ≤ n - h ∧ o.length = i + j ∧ ov = .slice (some ⟨g, 0, none⟩) (i + j) cp ∧ iv = .int .i64 (i : Int) ∧ jv = .int .i64 (j : Int) ∧ wr.ownsRow w2.heap.size 3 1 (.slice (some ⟨g, 0, none⟩) (i + j) cp) (i + j) (cellsN o) ∧ o ++ (A.drop i).merge (B.drop j) (leB keys dn) = F ∧ Below w2.heap.size w2 wr) (fun _ iv jv _ => n - (intOf iv).toNat - (intOf jv).toNat)
 case atStart => exact ⟨0, 0, w2.heap.size, 0, [], Nat.zero_le _, Nat.zero_le _, rfl, rfl, rfl, rfl, HO0.out, HM.out, (Below.refl _ _).alloc (Nat.le_refl _) _⟩
 case round =>
  obtain ⟨i, j, g, cp, o, hih, hjn, hol, rfl, rfl, rfl, how, hnx, hbel⟩ := hrel
  have HOL := hide hol
  have HOW := hide how
  have HBW := hide hbel
  have HNXT := hide hnx
  have hsz := hbel.size
  clear hol how hbel hnx HO0 HM
  by_cases hj : j < n - h
  · have hjl : j < B.length := by rw [HLB.out]; exact hj
    have hjc : (j : Int) < ((n - h : Nat) : Int) := by omega
    have hje : ((j : Int) == ((n - h : Nat) : Int)) = false := by simp; omega
    have c1 : wr.cell? ⟨gB, j, none⟩ = some (.int .i64 (B[j] : Int)) := by
     have := (HRB.out.mono HBW.out).cell j hj hjl
     simpa using this
    have hyn := HIB.out B[j] (List.getElem_mem hjl)
    by_cases hih2 : i < h
    · have hil : i < A.length := by rw [HLA.out]; exact hih2
      have hic : (i : Int) < (h : Int) := by omega
      have hie : ((i : Int) == (h : Int)) = false := by simp; omega
      have c0 : wr.cell? ⟨gA, i, none⟩ = some (.int .i64 (A[i] : Int)) := by
       have := (HRA.out.mono HBW.out).cell i hih2 hil
       simpa using this
      have hxn := HIA.out A[i] (List.getElem_mem hil)
      have hxy := HAB.out A[i] (List.getElem_mem hil) B[j] (List.getElem_mem hjl)
      have hle := leB_lt (keys := keys) (dn := dn) hxy
      have hNA : leB keys dn A[i] B[j] = true → (o ++ [A[i]]) ++ (A.drop (i + 1)).merge (B.drop j) (leB keys dn) = F := fun h => mg_ab _ o A B F i j hil hjl h HNXT.out
      have hNB : leB keys dn A[i] B[j] = false → (o ++ [B[j]]) ++ (A.drop i).merge (B.drop (j + 1)) (leB keys dn) = F := fun h => mg_ba _ o A B F i j hil hjl h HNXT.out
      rw [hle] at hNA hNB
      obtain ⟨bk, ok, hak, ck1⟩ := (HRK2.out.mono HBW.out).2 B[j] hyn
      obtain ⟨bk', ok', hak', ck0⟩ := (HRK2.out.mono HBW.out).2 A[i] hxn
      rw [hak] at hak'
      cases hak'
      have HNA := hide hNA
      have HNB := hide hNB
      have hlts : lts keys dn B[j] A[i] = if dn then decide (keys.getD A[i] 0 < keys.getD B[j] 0) else decide (keys.getD B[j] 0 < keys.getD A[i] 0) := rfl
      generalize lts keys dn B[j] A[i] = lt at *
      generalize keys.getD B[j] 0 = ky at *
      generalize keys.getD A[i] 0 = kx at *
      generalize hgx : A[i] = x at *
      generalize hgy : B[j] = y at *
      have HLTS := hide hlts
      clear hgx hgy hle hNA hNB hlts HNXT HRK2
      subst hak
      cases dn
      · rcases (show ky < kx ∨ ky = kx ∨ kx < ky from by omega) with hk | hk | hk
        · have hd1 : decide (ky < kx) = true := by simp; omega
          have hd2 : decide (kx < ky) = false := by simp; omega
          have hl : lt = true := by rw [HLTS.out]; simp; omega
          have HNX : Hid ((o ++ [y]) ++ (A.drop i).merge (B.drop (j + 1)) (leB keys false) = F) := HNB.out (by rw [hl]; rfl)
          clear hl HLTS HNA HNB hk
          go_wp2
          go_quiet (fail)
          go_wp2_with (first
           | (at_builtin; refine wpList_append_own _ rfl _ _ 49 rfl w2.heap.size 3 i0 (.int .i64 0) 1 8 Try.underlying49 hi hz0 hz1 hz2 rfl (by decide) (.slice (some ⟨g, 0, none⟩) (i + j) cp) (i + j) (cellsN o) rfl ((own_drew HOW.out _).alloc _) ⟨_, 0, none⟩ 1 1 [.int .i64 (y : Int)] rfl rfl (cell_one_new _ _ _) (by simp [Value.oneCell']) (by unfold maxLen; omega) (by omega) (by simp; omega) ?_; intro v' w3 h1 h2 h3)
           | go_in)
          obtain ⟨g', cap', hv, ho, hb⟩ := app_int HOL.out (own_drew HOW.out _) (below_drewN HBW.out _) h1 h2 h3
          have hlen : (o ++ [y]).length = i + j + 1 := by simp [HOL.out]
          rw [hlen] at hv ho
          clear h1 h2 h3
          go_roundw
          case rel => exact ⟨i, j + 1, g', cap', o ++ [y], by omega, by omega, by rw [hlen]; omega, by rw [show i + (j + 1) = i + j + 1 from by omega]; exact hv, by go_num, by go_num, by rw [show i + (j + 1) = i + j + 1 from by omega]; exact ho, HNX.out, hb⟩
          case measure => simp [intOf]; omega
        · subst hk
          have hd1 : decide (ky < ky) = false := by simp
          have hl : lt = false := by rw [HLTS.out]; simp
          have HNX : Hid ((o ++ [x]) ++ (A.drop (i + 1)).merge (B.drop j) (leB keys false) = F) := HNA.out (by rw [hl]; rfl)
          clear hl HLTS HNA HNB
          go_wp2
          go_quiet (fail)
          go_wp2_with (first
           | (at_builtin; refine wpList_append_own _ rfl _ _ 49 rfl w2.heap.size 3 i0 (.int .i64 0) 1 8 Try.underlying49 hi hz0 hz1 hz2 rfl (by decide) (.slice (some ⟨g, 0, none⟩) (i + j) cp) (i + j) (cellsN o) rfl ((own_drew HOW.out _).alloc _) ⟨_, 0, none⟩ 1 1 [.int .i64 (x : Int)] rfl rfl (cell_one_new _ _ _) (by simp [Value.oneCell']) (by unfold maxLen; omega) (by omega) (by simp; omega) ?_; intro v' w3 h1 h2 h3)
           | go_in)
          obtain ⟨g', cap', hv, ho, hb⟩ := app_int HOL.out (own_drew HOW.out _) (below_drewN HBW.out _) h1 h2 h3
          have hlen : (o ++ [x]).length = i + j + 1 := by simp [HOL.out]
          rw [hlen] at hv ho
          clear h1 h2 h3
          go_roundw
          case rel => exact ⟨i + 1, j, g', cap', o ++ [x], by omega, by omega, by rw [hlen]; omega, by rw [show i + 1 + j = i + j + 1 from by omega]; exact hv, by go_num, by go_num, by rw [show i + 1 + j = i + j + 1 from by omega]; exact ho, HNX.out, hb⟩
          case measure => simp [intOf]; omega
        · have hd1 : decide (ky < kx) = false := by simp; omega
          have hd2 : decide (kx < ky) = true := by simp; omega
          have hl : lt = false := by rw [HLTS.out]; simp; omega
          have HNX : Hid ((o ++ [x]) ++ (A.drop (i + 1)).merge (B.drop j) (leB keys false) = F) := HNA.out (by rw [hl]; rfl)
          clear hl HLTS HNA HNB hk
          go_wp2
          go_quiet (fail)
          go_wp2_with (first
           | (at_builtin; refine wpList_append_own _ rfl _ _ 49 rfl w2.heap.size 3 i0 (.int .i64 0) 1 8 Try.underlying49 hi hz0 hz1 hz2 rfl (by decide) (.slice (some ⟨g, 0, none⟩) (i + j) cp) (i + j) (cellsN o) rfl ((own_drew HOW.out _).alloc _) ⟨_, 0, none⟩ 1 1 [.int .i64 (x : Int)] rfl rfl (cell_one_new _ _ _) (by simp [Value.oneCell']) (by unfold maxLen; omega) (by omega) (by simp; omega) ?_; intro v' w3 h1 h2 h3)
           | go_in)
          obtain ⟨g', cap', hv, ho, hb⟩ := app_int HOL.out (own_drew HOW.out _) (below_drewN HBW.out _) h1 h2 h3
          have hlen : (o ++ [x]).length = i + j + 1 := by simp [HOL.out]
          rw [hlen] at hv ho
          clear h1 h2 h3
          go_roundw
          case rel => exact ⟨i + 1, j, g', cap', o ++ [x], by omega, by omega, by rw [hlen]; omega, by rw [show i + 1 + j = i + j + 1 from by omega]; exact hv, by go_num, by go_num, by rw [show i + 1 + j = i + j + 1 from by omega]; exact ho, HNX.out, hb⟩
          case measure => simp [intOf]; omega
      · rcases (show ky < kx ∨ ky = kx ∨ kx < ky from by omega) with hk | hk | hk
        · have hd1 : decide (ky < kx) = true := by simp; omega
          have hd2 : decide (kx < ky) = false := by simp; omega
          have hl : lt = false := by rw [HLTS.out]; simp; omega
          have HNX : Hid ((o ++ [x]) ++ (A.drop (i + 1)).merge (B.drop j) (leB keys true) = F) := HNA.out (by rw [hl]; rfl)
          clear hl HLTS HNA HNB hk
          go_wp2
          go_quiet (fail)
          go_wp2_with (first
           | (at_builtin; refine wpList_append_own _ rfl _ _ 49 rfl w2.heap.size 3 i0 (.int .i64 0) 1 8 Try.underlying49 hi hz0 hz1 hz2 rfl (by decide) (.slice (some ⟨g, 0, none⟩) (i + j) cp) (i + j) (cellsN o) rfl ((own_drew HOW.out _).alloc _) ⟨_, 0, none⟩ 1 1 [.int .i64 (x : Int)] rfl rfl (cell_one_new _ _ _) (by simp [Value.oneCell']) (by unfold maxLen; omega) (by omega) (by simp; omega) ?_; intro v' w3 h1 h2 h3)
           | go_in)
          obtain ⟨g', cap', hv, ho, hb⟩ := app_int HOL.out (own_drew HOW.out _) (below_drewN HBW.out _) h1 h2 h3
          have hlen : (o ++ [x]).length = i + j + 1 := by simp [HOL.out]
          rw [hlen] at hv ho
          clear h1 h2 h3
          go_roundw
          case rel => exact ⟨i + 1, j, g', cap', o ++ [x], by omega, by omega, by rw [hlen]; omega, by rw [show i + 1 + j = i + j + 1 from by omega]; exact hv, by go_num, by go_num, by rw [show i + 1 + j = i + j + 1 from by omega]; exact ho, HNX.out, hb⟩
          case measure => simp [intOf]; omega
        · subst hk
          have hd1 : decide (ky < ky) = false := by simp
          have hl : lt = false := by rw [HLTS.out]; simp
          have HNX : Hid ((o ++ [x]) ++ (A.drop (i + 1)).merge (B.drop j) (leB keys true) = F) := HNA.out (by rw [hl]; rfl)
          clear hl HLTS HNA HNB
          go_wp2
          go_quiet (fail)
          go_wp2_with (first
           | (at_builtin; refine wpList_append_own _ rfl _ _ 49 rfl w2.heap.size 3 i0 (.int .i64 0) 1 8 Try.underlying49 hi hz0 hz1 hz2 rfl (by decide) (.slice (some ⟨g, 0, none⟩) (i + j) cp) (i + j) (cellsN o) rfl ((own_drew HOW.out _).alloc _) ⟨_, 0, none⟩ 1 1 [.int .i64 (x : Int)] rfl rfl (cell_one_new _ _ _) (by simp [Value.oneCell']) (by unfold maxLen; omega) (by omega) (by simp; omega) ?_; intro v' w3 h1 h2 h3)
           | go_in)
          obtain ⟨g', cap', hv, ho, hb⟩ := app_int HOL.out (own_drew HOW.out _) (below_drewN HBW.out _) h1 h2 h3
          have hlen : (o ++ [x]).length = i + j + 1 := by simp [HOL.out]
          rw [hlen] at hv ho
          clear h1 h2 h3
          go_roundw
          case rel => exact ⟨i + 1, j, g', cap', o ++ [x], by omega, by omega, by rw [hlen]; omega, by rw [show i + 1 + j = i + j + 1 from by omega]; exact hv, by go_num, by go_num, by rw [show i + 1 + j = i + j + 1 from by omega]; exact ho, HNX.out, hb⟩
          case measure => simp [intOf]; omega
        · have hd1 : decide (ky < kx) = false := by simp; omega
          have hd2 : decide (kx < ky) = true := by simp; omega
          have hl : lt = true := by rw [HLTS.out]; simp; omega
          have HNX : Hid ((o ++ [y]) ++ (A.drop i).merge (B.drop (j + 1)) (leB keys true) = F) := HNB.out (by rw [hl]; rfl)
          clear hl HLTS HNA HNB hk
          go_wp2
          go_quiet (fail)
          go_wp2_with (first
           | (at_builtin; refine wpList_append_own _ rfl _ _ 49 rfl w2.heap.size 3 i0 (.int .i64 0) 1 8 Try.underlying49 hi hz0 hz1 hz2 rfl (by decide) (.slice (some ⟨g, 0, none⟩) (i + j) cp) (i + j) (cellsN o) rfl ((own_drew HOW.out _).alloc _) ⟨_, 0, none⟩ 1 1 [.int .i64 (y : Int)] rfl rfl (cell_one_new _ _ _) (by simp [Value.oneCell']) (by unfold maxLen; omega) (by omega) (by simp; omega) ?_; intro v' w3 h1 h2 h3)
           | go_in)
          obtain ⟨g', cap', hv, ho, hb⟩ := app_int HOL.out (own_drew HOW.out _) (below_drewN HBW.out _) h1 h2 h3
          have hlen : (o ++ [y]).length = i + j + 1 := by simp [HOL.out]
          rw [hlen] at hv ho
          clear h1 h2 h3
          go_roundw
          case rel => exact ⟨i, j + 1, g', cap', o ++ [y], by omega, by omega, by rw [hlen]; omega, by rw [show i + (j + 1) = i + j + 1 from by omega]; exact hv, by go_num, by go_num, by rw [show i + (j + 1) = i + j + 1 from by omega]; exact ho, HNX.out, hb⟩
          case measure => simp [intOf]; omega
    · have hieq : i = h := by omega
      have hic : ¬ (i : Int) < (h : Int) := by omega
      have hie : ((i : Int) == (h : Int)) = true := by simp; omega
      have hAn : A.drop i = [] := List.drop_of_length_le (by rw [HLA.out]; omega)
      have hnx := HNXT.out
      rw [hAn] at hnx
      have hnx2 : (o ++ [B[j]]) ++ (A.drop i).merge (B.drop (j + 1)) (leB keys dn) = F := by rw [hAn]; exact mg_b _ o B F j hjl hnx
      have HNX := hide hnx2
      generalize hgy : B[j] = y at *
      clear hgy hnx hnx2 hAn HNXT hieq
      go_wp2_with (first
       | (at_builtin; refine wpList_append_own _ rfl _ _ 49 rfl w2.heap.size 3 i0 (.int .i64 0) 1 8 Try.underlying49 hi hz0 hz1 hz2 rfl (by decide) (.slice (some ⟨g, 0, none⟩) (i + j) cp) (i + j) (cellsN o) rfl (HOW.out.alloc _) ⟨_, 0, none⟩ 1 1 [.int .i64 (y : Int)] rfl rfl (cell_one_new _ _ _) (by simp [Value.oneCell']) (by unfold maxLen; omega) (by omega) (by simp; omega) ?_; intro v' w3 h1 h2 h3)
       | go_in)
      obtain ⟨g', cap', hv, ho, hb⟩ := app_int HOL.out HOW.out HBW.out h1 h2 h3
      have hlen : (o ++ [y]).length = i + j + 1 := by simp [HOL.out]
      rw [hlen] at hv ho
      clear h1 h2 h3
      go_roundw
      case rel => exact ⟨i, j + 1, g', cap', o ++ [y], by omega, by omega, by rw [hlen]; omega, by rw [show i + (j + 1) = i + j + 1 from by omega]; exact hv, by go_num, by go_num, by rw [show i + (j + 1) = i + j + 1 from by omega]; exact ho, HNX.out, hb⟩
      case measure => simp [intOf]; omega
  · have hjq : j = n - h := by omega
    have hjc : ¬ (j : Int) < ((n - h : Nat) : Int) := by omega
    have hje : ((j : Int) == ((n - h : Nat) : Int)) = true := by simp; omega
    by_cases hih2 : i < h
    · have hil : i < A.length := by rw [HLA.out]; exact hih2
      have hic : (i : Int) < (h : Int) := by omega
      have c0 : wr.cell? ⟨gA, i, none⟩ = some (.int .i64 (A[i] : Int)) := by
       have := (HRA.out.mono HBW.out).cell i hih2 hil
       simpa using this
      have hBn : B.drop j = [] := List.drop_of_length_le (by rw [HLB.out]; omega)
      have hnx := HNXT.out
      rw [hBn] at hnx
      have hnx2 : (o ++ [A[i]]) ++ (A.drop (i + 1)).merge (B.drop j) (leB keys dn) = F := by rw [hBn]; exact mg_a _ o A F i hil hnx
      have HNX := hide hnx2
      generalize hgx : A[i] = x at *
      clear hgx hnx hnx2 hBn HNXT hjq
      go_wp2_with (first
       | (at_builtin; refine wpList_append_own _ rfl _ _ 49 rfl w2.heap.size 3 i0 (.int .i64 0) 1 8 Try.underlying49 hi hz0 hz1 hz2 rfl (by decide) (.slice (some ⟨g, 0, none⟩) (i + j) cp) (i + j) (cellsN o) rfl (HOW.out.alloc _) ⟨_, 0, none⟩ 1 1 [.int .i64 (x : Int)] rfl rfl (cell_one_new _ _ _) (by simp [Value.oneCell']) (by unfold maxLen; omega) (by omega) (by simp; omega) ?_; intro v' w3 h1 h2 h3)
       | go_in)
      obtain ⟨g', cap', hv, ho, hb⟩ := app_int HOL.out HOW.out HBW.out h1 h2 h3
      have hlen : (o ++ [x]).length = i + j + 1 := by simp [HOL.out]
      rw [hlen] at hv ho
      clear h1 h2 h3
      go_roundw
      case rel => exact ⟨i + 1, j, g', cap', o ++ [x], by omega, by omega, by rw [hlen]; omega, by rw [show i + 1 + j = i + j + 1 from by omega]; exact hv, by go_num, by go_num, by rw [show i + 1 + j = i + j + 1 from by omega]; exact ho, HNX.out, hb⟩
      case measure => simp [intOf]; omega
    · have hic : ¬ (i : Int) < (h : Int) := by omega
      have hin : i + j = n := by omega
      have hfin : o = F := by
       have := HNXT.out
       rw [List.drop_of_length_le (l := A) (by rw [HLA.out]; omega), List.drop_of_length_le (l := B) (by rw [HLB.out]; omega)] at this
       simpa using this
      have hO := HOW.out
      rw [hin, hfin] at hO
      have HO := hide hO
      have HIN := hide hin
      clear hin hfin hO hjq
      go_wp2
      go_ret
      exact ⟨g, cp, by rw [HIN.out]; rfl, by rw [HF.out]; exact own_less HO.out HB2.out.size, HB2.out.trans (HBW.out.mono HB2.out.size)⟩

theorem merge_all : ∀ N, MergeSaid N
 | 0 => fun ps b off cap n ak nk ck keys dn w hl hN hc hcm hn hps hin hnk hrk hr => merge_short ps b off cap n ak nk ck keys dn w hl (by omega) hr
 | N + 1 => fun ps b off cap n ak nk ck keys dn w hl hN hc hcm hn hps hin hnk hrk hr => by
  by_cases h : n < 2
  · exact merge_short ps b off cap n ak nk ck keys dn w hl h hr
  · exact merge_long N (merge_all N) ps b off cap n ak nk ck keys dn w hl hN (by omega) hc hcm hn hps hin hnk hrk hr

theorem range_pw (n : Nat) : (List.range n).Pairwise (· < ·) := by rw [List.range_eq_range']; exact List.pairwise_lt_range'

set_option maxHeartbeats 400000 in
theorem specSortDown_any (ak : Option Addr) (n ck : Nat) (keys : List Int) (w : World) (hr : Rd w ak n keys) (hn : n ≤ 1048576) :
 Calls Try.prog 42 #[.slice ak n ck] w fun e w' => ∃ g c, e = .returned (.slice (some ⟨g, 0, none⟩) n c) ∧
  w'.ownsRow w.heap.size 3 1 (.slice (some ⟨g, 0, none⟩) n c) n (cellsN (sortP keys true (List.range n))) ∧ Below w.heap.size w w' := by
 have HR := hide hr
 clear hr
 go_enter Try.func42, Try.ntmps42
 go_wp2_with fail
 refine (l1Places_any n w hn).mono ?_
 rintro e w1 ⟨g, cap, rfl, ho, hb⟩
 have hcap := own_cap ho
 have HO := hide ho
 have HB := hide hb
 clear ho hb
 go_wp2_with fail
 refine (merge_all n (List.range n) g 0 cap n ak n ck keys true w1 List.length_range (Nat.le_refl _) hcap.1 hcap.2 hn (range_pw n) (fun p hp => List.mem_range.1 hp) hn (HR.out.mono HB.out) (Rd.of_cells HO.out)).mono ?_
 rintro e w2 ⟨g2, c2, rfl, ho2, hb2⟩
 go_wp2
 go_ret
 exact ⟨g2, c2, rfl, own_less ho2 HB.out.size, HB.out.trans (hb2.mono HB.out.size)⟩
end Go.Proofs.Ytcblpoeeembniaa
