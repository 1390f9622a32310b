/- laws.toIntSS: a copy, every row of it new; GroupOf of the model and of the program; its law. -/
import Derived.Test.YtmjohalblppgiabIntSS
import Derived.Test.YtmjohalblppgiabBeside
namespace Go.Proofs.Ytmjohalblppgiab
open Go.RowKit
set_option linter.unusedVariables false

theorem Try.infoIntS : (Try.prog.info? 23).map (fun i => (i.zero, i.size, i.bytes)) = some (some (.slice none 0 0), 1, 24) := by kernel_rfl
theorem fillS_step (xs : List RowV) (r : RowV) (n k : Nat) (hl : xs.length = k) (hk : k < n) :
    (xs.map RowV.val ++ List.replicate (n - k) (Value.slice none 0 0)).set k r.val = (xs ++ [r]).map RowV.val ++ List.replicate (n - (k + 1)) (.slice none 0 0) := by
  have e : n - k = (n - (k + 1)) + 1 := by omega
  have hlen : (xs.map RowV.val).length = k := by simpa using hl
  rw [e, List.replicate_succ, List.set_append_right _ _ (by omega), hlen, Nat.sub_self, List.set_cons_zero]
  simp
theorem fillS_at (xs : List RowV) (n k : Nat) (hl : xs.length = k) (hk : k < n) :
    (xs.map RowV.val ++ List.replicate (n - k) (Value.slice none 0 0))[k]? = some (.slice none 0 0) := by
  have hlen : (xs.map RowV.val).length = k := by simpa using hl
  rw [List.getElem?_append_right (by omega), hlen, Nat.sub_self, List.getElem?_replicate, if_pos (by omega)]
set_option maxHeartbeats 1000000 in
theorem toIntSS_any (a : Option Addr) (n c : Nat) (gs : List (List Int)) (w : World) (hr : Rd2 w a n gs) (hn : n ≤ 1048576) (hm : ∀ i, i < n → (gs.getD i []).length ≤ 1048576) :
    Calls Try.prog 19 #[.slice a n c] w fun e w' => ∃ xs : List RowV, e = .returned (.slice (some ⟨w.heap.size, 0, none⟩) n n) ∧ xs.length = n ∧ xs.map RowV.l = gs ∧ Own2 w' w.heap.size w.heap.size n xs ∧ Below w.heap.size w w' := by
  obtain ⟨i0, hi, hz0, hz1, hz2⟩ := info_parts Try.infoIntS
  have hbb : i0.bytes * n ≤ 281474976710656 := by rw [hz2]; omega
  have HR := hide hr
  clear hr
  go_enter Try.func19, Try.ntmps19
  go_wp2_with (first
    | (at_make; refine wpList_make_full _ rfl _ _ 25 rfl w.heap.size 23 i0 (.slice none 0 0) 1 Try.underlying25 hi hz0 hz1 .i64 .i64 n n n rfl rfl rfl rfl hbb (by unfold maxLen; omega) (Nat.le_refl _) ?_; intro w1 hown hgrow)
    | go_in)
  have hown0 : w1.ownsRow w.heap.size 23 1 (.slice (some ⟨w.heap.size, 0, none⟩) n n) n (([] : List RowV).map RowV.val ++ List.replicate (n - 0) (.slice none 0 0)) := by
    simpa [toList_madeCells_one, Value.cells] using hown
  have hb1 : Below w.heap.size w w1 := (Below.refl _ _).grown hgrow (Nat.le_refl _) (by simp)
  have HO := hide hown0
  have HB := hide hb1
  clear hown hgrow hown0 hb1
  go_loopw [4] (fun i wr => ∃ (k : Nat) (xs : List RowV), k ≤ n ∧ i = .int .i64 k ∧ xs.length = k ∧ xs.map RowV.l = gs.take k ∧ wr.ownsRow w.heap.size 23 1 (.slice (some ⟨w.heap.size, 0, none⟩) n n) n (xs.map RowV.val ++ List.replicate (n - k) (.slice none 0 0)) ∧ Rws wr w.heap.size w.heap.size xs ∧ Below w.heap.size w wr) (fun i _ => n - (intOf i).toNat)
  case atStart => exact ⟨0, [], Nat.zero_le _, rfl, rfl, rfl, unhide HO, Rws.nil, unhide HB⟩
  case round =>
    clear HO HB
    obtain ⟨k, xs, hk, rfl, hxl, hxg, how, hrs, hbel⟩ := hrel
    have HXL := hide hxl
    have HXG := hide hxg
    have HO := hide how
    have HS := hide hrs
    have HB := hide hbel
    clear hxl hxg how hrs
    by_cases hlt : k < n
    case neg =>
      obtain rfl : k = n := by omega
      clear hbel
      go_wp2
      go_ret
      have e : gs.take k = gs := List.take_of_length_le (by have := (unhide HR).1; omega)
      have hx := unhide HXL
      refine ⟨xs, rfl, hx, by rw [unhide HXG, e], ⟨?_, unhide HS⟩, unhide HB⟩
      have ho := unhide HO
      rw [Nat.sub_self, List.replicate_zero, List.append_nil] at ho
      rw [hx]
      exact ho
    obtain ⟨b, off, ai, ci, rfl, hc, hrow⟩ := ((unhide HR).mono hbel).2 k hlt
    have HM := hide (hm k hlt)
    have HTK := hide (show gs.take (k + 1) = gs.take k ++ [gs.getD k []] by rw [List.take_succ_eq_append_getElem (by rw [(unhide HR).1]; exact hlt)]; simp [(unhide HR).1, hlt])
    generalize gs.getD k [] = zs at hc hrow HM HTK
    have HQ := hide hrow
    clear hrow hbel
    go_wp2_with fail
    refine (toIntS_any ai zs.length ci zs wr (unhide HQ) (unhide HM)).mono ?_
    rintro e w2 ⟨rfl, ho2, hb2⟩
    have hz : w.heap.size < wr.heap.size := ((unhide HO).lt _ rfl).2
    have O2 := own_later (unhide HO) hb2
    have S2 := (unhide HS).later hb2
    have RW : RowV.own w2 w.heap.size ⟨wr.heap.size, zs.length, zs⟩ := World.ownsRow.mono ho2 (by omega)
    have c2 : w2.cell? ⟨w.heap.size, k, none⟩ = some (.slice none 0 0) := (O2.cellAt k (by omega)).trans (fillS_at xs n k (unhide HXL) hlt)
    have f2 : w2.frozen? ⟨w.heap.size, k, none⟩ = false := O2.frozenAt k
    have gb : w2.grownBy (w2.setCell ⟨w.heap.size, k, none⟩ (.slice (some ⟨wr.heap.size, 0, none⟩) zs.length zs.length)) (some w.heap.size) := gb_set (World.grownBy.refl _ _) _ _
    have O3 := (O2.stored k (.slice (some ⟨wr.heap.size, 0, none⟩) zs.length zs.length)).1
    have hfs := fillS_step xs ⟨wr.heap.size, zs.length, zs⟩ n k (unhide HXL) hlt
    have hv : RowV.val ⟨wr.heap.size, zs.length, zs⟩ = .slice (some ⟨wr.heap.size, 0, none⟩) zs.length zs.length := rfl
    rw [hv] at hfs
    rw [hfs] at O3
    have HO3 := hide O3
    have HS3 := hide ((S2.kept gb (fun i hi e => by have := S2.far i hi; injection e with e; exact this e)).snoc (r := ⟨wr.heap.size, zs.length, zs⟩) (RW.kept gb (by intro e; injection e with e; exact absurd e (show wr.heap.size ≠ w.heap.size by omega))) (fun i hi e => by have h := ((unhide HS).row i hi).lt.2; have e' : (xs.getD i default).g = wr.heap.size := e; omega) (show wr.heap.size ≠ w.heap.size by omega))
    have HB3 : Hid (Below w.heap.size w (w2.setCell ⟨w.heap.size, k, none⟩ (.slice (some ⟨wr.heap.size, 0, none⟩) zs.length zs.length))) := ((unhide HB).trans (hb2.mono (unhide HB).size)).setCell (Nat.le_refl _) _
    clear O2 O3 S2 RW hfs hv gb ho2 hb2 HO HS HB
    go_wp2
    go_roundw
    case rel => exact ⟨k + 1, xs ++ [⟨wr.heap.size, zs.length, zs⟩], by omega, by go_num, by rw [List.length_append, unhide HXL]; rfl, by rw [List.map_append, unhide HXG, unhide HTK]; rfl, unhide HO3, unhide HS3, unhide HB3⟩
    case measure => simp [intOf]; omega
set_option maxHeartbeats 1000000 in
theorem specGroupOf_any (a : Option Addr) (n c : Nat) (gs : List (List Int)) (x : Int) (w : World) (hr : Rd2 w a n gs) (hn : n ≤ 1048600) (hm : ∀ i, i < n → (gs.getD i []).length ≤ 1048600) :
    Calls Try.prog 18 #[.slice a n c, .int .i64 x] w fun e w' => e = .returned (.int .i64 (groupOfI gs x)) ∧ w' = w := by
  go_enter Try.func18, Try.ntmps18
  go_wp2
  go_loop [5] (fun i => ∃ k : Nat, k ≤ n ∧ i = .int .i64 k ∧ (gs.take k).any (hasI · x) = false) (fun i => n - (intOf i).toNat)
  case atStart => exact ⟨0, Nat.zero_le _, rfl, rfl⟩
  case round =>
    obtain ⟨k, hk, rfl, h0⟩ := hrel
    have H0 := hide h0
    clear h0
    by_cases hlt : k < n
    case neg =>
      have HE := hide (groupOf_none gs x (take_any_end gs (hasI · x) k (by rw [hr.1]; omega) (unhide H0)))
      go_wp2
      go_ret
      exact ⟨ret_num (unhide HE).symm, rfl⟩
    obtain ⟨b, off, ai, ci, rfl, hc, hrow⟩ := hr.2 k hlt
    have hm1 := hm k hlt
    have HS := hide (take_any_step gs (hasI · x) k (by rw [hr.1]; exact hlt))
    have HH := hide (groupOf_hit gs x k (by rw [hr.1]; exact hlt) (unhide H0))
    rw [show gs.getD k [] = gs.getD k default from rfl] at hc hrow hm1
    generalize gs.getD k default = zs at hc hrow hm1 HS HH
    have HQ := hide hrow
    clear hrow hr
    go_wp2_with fail
    refine (l1Has_any ai zs.length ci zs x w (unhide HQ) hm1).mono ?_
    rintro e w1 ⟨rfl, hw⟩
    subst w1
    cases hb : hasI zs x
    · go_wp2_with fail
      go_round
      case rel => exact ⟨k + 1, by omega, by go_num, by rw [unhide HS, unhide H0, hb]; rfl⟩
      case measure => simp [intOf]; omega
    · have HE := hide ((unhide HH) hb)
      go_wp2_with fail
      go_ret
      exact ⟨ret_num (unhide HE).symm, rfl⟩
set_option maxHeartbeats 1000000 in
theorem groupOf_any (a : Option Addr) (n c : Nat) (gs : List (List Int)) (x : Int) (w : World) (hr : Rd2 w a n gs) (hn : n ≤ 1048600) (hm : ∀ i, i < n → (gs.getD i []).length ≤ 1048600) :
    Calls Try.prog 20 #[.slice a n c, .int .i64 x] w fun e w' => e = .returned (.int .i64 (groupOfI gs x)) ∧ w' = w := by
  go_enter Try.func20, Try.ntmps20
  go_wp2
  go_loop [9] (fun i => ∃ k : Nat, k ≤ n ∧ i = .int .i64 k ∧ (gs.take k).any (hasI · x) = false) (fun i => n - (intOf i).toNat)
  case atStart => exact ⟨0, Nat.zero_le _, rfl, rfl⟩
  case round =>
    obtain ⟨k, hk, rfl, h0⟩ := hrel
    have H0 := hide h0
    clear h0
    by_cases hlt : k < n
    case neg =>
      have HE := hide (groupOf_none gs x (take_any_end gs (hasI · x) k (by rw [hr.1]; omega) (unhide H0)))
      go_wp2
      go_ret
      exact ⟨ret_num (unhide HE).symm, rfl⟩
    obtain ⟨b, off, ai, ci, rfl, hc, hrow⟩ := hr.2 k hlt
    have hm1 := hm k hlt
    have HS := hide (take_any_step gs (hasI · x) k (by rw [hr.1]; exact hlt))
    have HH := hide (groupOf_hit gs x k (by rw [hr.1]; exact hlt) (unhide H0))
    rw [show gs.getD k [] = gs.getD k default from rfl] at hc hrow hm1
    generalize gs.getD k default = zs at hc hrow hm1 HS HH
    have HQ := hide hrow
    clear hrow hr
    go_wp2_with fail
    refine (containsInt_any ai zs.length ci zs x w (unhide HQ) hm1).mono ?_
    rintro e w1 ⟨rfl, hw⟩
    subst w1
    cases hb : hasI zs x
    · go_wp2_with fail
      go_round
      case rel => exact ⟨k + 1, by omega, by go_num, by rw [unhide HS, unhide H0, hb]; rfl⟩
      case measure => simp [intOf]; omega
    · have HE := hide ((unhide HH) hb)
      go_wp2_with fail
      go_ret
      exact ⟨ret_num (unhide HE).symm, rfl⟩
theorem getD_mem_len (gs : List (List Int)) (n : Nat) (hl : gs.length = n) (h : total2 gs ≤ 1048576) (i : Nat) (hi : i < n) : (gs.getD i []).length ≤ 1048576 := by
  have := total2_le gs i (by omega)
  omega
set_option maxHeartbeats 1000000 in
theorem law_groupOf (a : Option Addr) (n c : Nat) (gs : List (List Int)) (x : Int) (w : World) (hr : Rd2 w a n gs) (hm : n ≤ maxLen) (hmm : ∀ g ∈ gs, g.length ≤ maxLen) :
    Calls Try.prog 4 #[.slice a n c, .int .i64 x] w fun e w' => e = .returned (.bool true) ∧ Below w.heap.size w w' := by
  have hne : (groupOfI gs x != groupOfI gs x) = false := by simp
  have HR := hide hr
  clear hr
  go_enter Try.func4, Try.ntmps4
  go_wp2_with fail
  refine (szIntSS_any a n c gs _ w (unhide HR) hm hmm (by omega) (by omega)).mono ?_
  rintro e w1 ⟨r, rfl, hs, hw⟩
  subst w1
  by_cases hr0 : r < 0
  · clear hs
    go_wp2_with fail
    go_ret
    exact ⟨rfl, Below.refl _ _⟩
  have hn : n ≤ 1048576 := by omega
  have hT : total2 gs ≤ 1048576 := by omega
  have HL := hide (getD_mem_len gs n (unhide HR).1 hT)
  clear hs hT
  go_wp2_with fail
  refine (toIntSS_any a n c gs w (unhide HR) hn (unhide HL)).mono ?_
  rintro e w2 ⟨xs2, rfl, hx2, hg2, ho2, hb2⟩
  have R2 : Hid (Rd2 w2 (some ⟨w.heap.size, 0, none⟩) n gs) := by have := ho2.read; rw [hx2, hg2] at this; exact this
  have H2 := hide hb2
  clear ho2 hb2 hx2 hg2
  go_wp2_with fail
  refine (specGroupOf_any _ n n gs x w2 (unhide R2) (by omega) (fun i hi => by have := (unhide HL) i hi; omega)).mono ?_
  rintro e w3 ⟨rfl, hw⟩
  subst w3
  clear R2
  go_wp2_with fail
  refine (toIntSS_any a n c gs w2 ((unhide HR).mono (unhide H2)) hn (unhide HL)).mono ?_
  rintro e w4 ⟨xs4, rfl, hx4, hg4, ho4, hb4⟩
  have R4 : Hid (Rd2 w4 (some ⟨w2.heap.size, 0, none⟩) n gs) := by have := ho4.read; rw [hx4, hg4] at this; exact this
  have H4 := hide ((unhide H2).trans (hb4.mono (unhide H2).size))
  generalize w2.heap.size = z2 at R4 ⊢
  clear ho4 hb4 hx4 hg4
  go_wp2_with fail
  refine (groupOf_any _ n n gs x w4 (unhide R4) (by omega) (fun i hi => by have := (unhide HL) i hi; omega)).mono ?_
  rintro e w5 ⟨rfl, hw⟩
  subst w5
  go_wp2_with fail
  refine (toIntSS_any a n c gs w4 ((unhide HR).mono (unhide H4)) hn (unhide HL)).mono ?_
  rintro e w6 ⟨xs6, rfl, hx6, hg6, ho6, hb6⟩
  have R6 : Hid (Rd2 w6 (some ⟨w4.heap.size, 0, none⟩) n gs) := by have := ho6.read; rw [hx6, hg6] at this; exact this
  have S6 := hide ((unhide R4).mono hb6)
  have H6 := hide ((unhide H4).trans (hb6.mono (unhide H4).size))
  clear ho6 hb6 hx6 hg6 R4
  go_wp2_with fail
  refine (eqIntSS_same _ n n _ n gs w6 (unhide S6) (unhide R6) hn (unhide HL)).mono ?_
  rintro e w7 ⟨rfl, hb7⟩
  have H7 := hide ((unhide H6).trans (hb7.mono (unhide H6).size))
  clear hb7 R6 S6 H6
  go_wp2_with fail
  go_ret
  exact ⟨rfl, unhide H7⟩
end Go.Proofs.Ytmjohalblppgiab
