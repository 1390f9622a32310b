/- SortSmallDown, FirstImplS, PackFirstS, PackWayImplS: one text. -/
import Derived.Test.YtphdeojiehigpaaGreatDoorPkB
import Derived.Test.YtphdeojiehigpaaGreatDoorPutFrom
import Derived.Test.YtphdeojiehigpaaGreatDoorPkO
import Derived.Deep.DeepMust
import Derived.Deep.DeepCutAuto
import Derived.Deep.RegionHeld3
import Derived.Laws.EntriesVeiled
/- The program's SortDown at no more than 19 keys: insertion alone. -/
namespace Go.Proofs.YtphdeojiehigpaaGreatDoor
open Go.RowKit
set_option linter.unusedVariables false

set_option maxHeartbeats 3200000 in
theorem insDown_any (base g n cap bx : Nat) (ak : Option Addr) (nk ck : Nat) (keys : List Int) (P M Q : List Nat) (A B : Int) (w : World)
    (hA : A = P.length) (hB : B = P.length + M.length) (hM0 : 1 ≤ M.length)
    (hown : w.ownsRow base 3 1 (.slice (some ⟨g, 0, none⟩) n cap) n (cellsN (P ++ M ++ Q))) (hk : Keys w bx ak nk ck keys) (hbx : bx ≠ g) (hak : ∀ x, ak = some x → x.block ≠ g)
    (hM : M.Pairwise (· < ·)) (hin : ∀ p ∈ M, p < nk) (hn : n ≤ 1048576) :
    Calls Tryz.prog 206 #[.slice (some ⟨g, 0, none⟩) n cap, .int .i64 A, .int .i64 B, .func (Fn.func 202) #[] #[.pointer (some ⟨bx, 0, none⟩)]] w fun e w' =>
      e = .returned (.tuple #[]) ∧ ∃ M', M'.Perm M ∧ M'.Pairwise (bef keys true) ∧ w'.ownsRow base 3 1 (.slice (some ⟨g, 0, none⟩) n cap) n (cellsN (P ++ M' ++ Q)) ∧ w.grownBy w' (some g) := by
  subst hA hB
  have hlen : P.length + M.length + Q.length = n := by have := hown.1; simp [cellsN] at this; omega
  go_enter Tryz.func206, Tryz.ntmps206
  go_wp2
  go_loopw [8] (fun i wr => ∃ (t : Nat) (T : List Nat), 1 ≤ t ∧ t ≤ M.length ∧ i = .int .i64 ((P.length : Int) + t) ∧ T.Perm (M.take t) ∧ T.Pairwise (bef keys true) ∧ wr.ownsRow base 3 1 (.slice (some ⟨g, 0, none⟩) n cap) n (cellsN (P ++ T ++ (M.drop t ++ Q))) ∧ w.grownBy wr (some g)) (fun i _ => ((P.length : Int) + M.length - intOf i).toNat)
  case atStart => exact ⟨1, M.take 1, Nat.le_refl _, hM0, by go_num, List.Perm.refl _, take1_sorted _ _ _, by rw [cut_one]; exact hown, World.grownBy.refl _ _⟩
  case round =>
    obtain ⟨t, T, ht1, ht2, rfl, hperm, hsort, how, hgb⟩ := hrel
    by_cases hlt : t < M.length
    · have hTl : T.length = t := by rw [hperm.length_eq, List.length_take]; omega
      have hx : M.drop t = M[t] :: M.drop (t + 1) := List.drop_eq_getElem_cons hlt
      have hltx : ∀ y ∈ T, y < M[t] := fun y hy => take_lt hM t hlt y (hperm.mem_iff.1 hy)
      have hinT : ∀ y ∈ T, y < nk := fun y hy => hin y (List.mem_of_mem_take (hperm.mem_iff.1 hy))
      have hinx : M[t] < nk := hin _ (List.getElem_mem hlt)
      have hpt : (T ++ [M[t]]).Perm (M.take (t + 1)) := by
        rw [List.take_succ_eq_append_getElem hlt]; exact hperm.append_right _
      rw [hx] at how
      clear hx
      generalize hxx : M[t] = x at *
      generalize hrest : M.drop (t + 1) = rest at *
      have HR : Hid (M.drop (t + 1) = rest) := hrest
      clear hxx hrest
      have hHT := hide hTl
      clear hTl
      go_wp2
      obtain ⟨wo, rfl⟩ : ∃ wo : World, wo = wr := ⟨_, rfl⟩
      go_loopw [9] (fun j wi => ∃ (S R : List Nat) (k : Nat), S ++ R = T ∧ k = P.length + S.length ∧ j = .int .i64 (k : Int) ∧ (∀ r ∈ R, lts keys true x r = true) ∧ wi.ownsRow base 3 1 (.slice (some ⟨g, 0, none⟩) n cap) n (cellsN (P ++ S ++ x :: (R ++ (rest ++ Q)))) ∧ w.grownBy wi (some g)) (fun j _ => (intOf j).toNat)
      case atStart => exact ⟨T, [], P.length + t, List.append_nil _, by rw [hHT.out], by go_num, fun r hr => by simp at hr, how, hgb⟩
      case round =>
        clear how hgb
        obtain ⟨S, R, k, hSR, hks, rfl, hRx, how, hgb⟩ := hrel
        have hkeys := hk.grown hgb hbx hak
        have hl2 : (P ++ S ++ x :: (R ++ (rest ++ Q))).length = n := by have := how.1; simpa [cellsN] using this
        rcases nil_or_last S with rfl | ⟨S', y, rfl⟩
        · have hk0 : k = P.length := by simpa using hks
          subst hk0
          have hT0 : R = T := by simpa using hSR
          subst hT0
          have hfin := ins_done (S := []) (by simpa using hsort) (by simpa using hltx) hRx (Or.inl rfl)
          have HFIN := hide hfin
          have HOW := hide how
          have HGB := hide hgb
          have hd : decide ((P.length : Int) < (P.length : Int)) = false := by simp
          clear hfin how hgb hSR hks hRx hsort hltx
          go_wp2
          go_quiet (fail)
          go_wp2
          go_roundw
          case rel => exact ⟨t + 1, x :: R, by omega, by omega, by go_num, (ins_perm [] R x).trans hpt, HFIN.out, by rw [HR.out]; simpa using own_drew HOW.out _, gb_drew HGB.out _⟩
          case measure => simp [intOf]; omega
        · have hi0 : k = P.length + S'.length + 1 := by simp at hks; omega
          have hyT : y ∈ T := by rw [← hSR]; simp
          have hyk := hinT y hyT
          obtain ⟨i, hi⟩ : ∃ i, i = P.length + S'.length := ⟨_, rfl⟩
          have hki : k = i + 1 := by omega
          subst hki
          have hin2 : i + 1 < n := by rw [← hl2]; simp; omega
          have hPi : P.length ≤ i := by omega
          have c1 : wr.cell? ⟨g, i + 1, none⟩ = some (.int .i64 (x : Int)) := own_get how (i + 1) x (by rw [hi]; exact mid_x P S' _ x y)
          have c0 : wr.cell? ⟨g, i, none⟩ = some (.int .i64 (y : Int)) := own_get how i y (by rw [hi]; exact mid_y P S' _ x y)
          have hcmp := cmpDown_any x y bx ak nk ck keys
          have hiff := cmp_lt_down keys x y
          have hd : decide ((P.length : Int) < (i : Int) + 1) = true := by simp; omega
          have hsub : (i : Int) + 1 - 1 = (i : Int) := by omega
          have HCMP := hide hcmp
          have HKEYS := hide hkeys
          have HI := hide hi
          clear hcmp hkeys hi hi0 hks
          by_cases hxy : lts keys true x y = true
          · have hneg := hiff.2 hxy
            have HST : Hid (∀ m, (((wr.drewN m).setCell ⟨g, i + 1, none⟩ (.int .i64 (y : Int))).setCell ⟨g, i, none⟩ (.int .i64 (x : Int))).ownsRow base 3 1 (.slice (some ⟨g, 0, none⟩) n cap) n (cellsN (P ++ S' ++ x :: (y :: R ++ (rest ++ Q))))) := by
              intro m
              have hst := own_put (own_put (own_drew how m) (i + 1) y) i x
              rw [swap_mid P S' (R ++ (rest ++ Q)) y x i HI.out] at hst
              exact hst
            have f0 : wr.frozen? ⟨g, i, none⟩ = false := how.frozenAt i
            have f1 : wr.frozen? ⟨g, i + 1, none⟩ = false := how.frozenAt (i + 1)
            have HGB : Hid (∀ m, w.grownBy (((wr.drewN m).setCell ⟨g, i + 1, none⟩ (.int .i64 (y : Int))).setCell ⟨g, i, none⟩ (.int .i64 (x : Int))) (some g)) := fun m => gb_set (gb_set (gb_drew hgb m) (i + 1) _) i _
            have HRX : Hid (∀ r ∈ y :: R, lts keys true x r = true) := by
              intro r hr
              rcases List.mem_cons.1 hr with rfl | hr
              · exact hxy
              · exact hRx r hr
            have HSR : Hid (S' ++ (y :: R) = T) := by rw [Hid, ← hSR]; simp
            have HTT := hide (And.intro hsort (And.intro hltx (And.intro hperm hpt)))
            generalize cmpI (keys.getD y 0) (keys.getD x 0) = c at *
            clear how hgb hRx hSR hiff hxy hsort hltx hperm hpt
            go_wp2
            go_quiet ((go_at_call 202; exact Calls.quiet_of (HCMP.out _ (HKEYS.out.drewN _) hinx hyk)))
            go_wp2
            go_region
            go_wp2
            go_roundw
            case rel => exact ⟨S', y :: R, i, HSR.out, HI.out, by go_num, HRX.out, HST.out _, HGB.out _⟩
            case measure => simp [intOf]
          · have hxn : lts keys true x y = false := by simpa using hxy
            have hneg : ¬ cmpI (keys.getD y 0) (keys.getD x 0) < 0 := fun h => hxy (hiff.1 h)
            have hfin := ins_done (S := S' ++ [y]) (by rw [hSR]; exact hsort) (by rw [hSR]; exact hltx) hRx (Or.inr ⟨S', y, rfl, hxn⟩)
            have HFIN := hide hfin
            have hpp : ((S' ++ [y]) ++ x :: R).Perm (M.take (t + 1)) := by
              refine (ins_perm _ R x).trans ?_
              rw [hSR]; exact hpt
            have HPP := hide hpp
            have HOW := hide how
            have HGB := hide hgb
            generalize cmpI (keys.getD y 0) (keys.getD x 0) = c at *
            clear hfin how hgb hRx hSR hiff hxy hxn hsort hltx hperm hpt hpp
            go_wp2
            go_quiet ((go_at_call 202; exact Calls.quiet_of (HCMP.out _ (HKEYS.out.drewN _) hinx hyk)))
            go_wp2
            go_roundw
            case rel => exact ⟨t + 1, (S' ++ [y]) ++ x :: R, by omega, by omega, by go_num, HPP.out, HFIN.out, by rw [HR.out]; simpa using own_drew HOW.out _, gb_drew HGB.out _⟩
            case measure => simp [intOf]; omega
    · have htm : t = M.length := by omega
      subst htm
      rw [List.take_length] at hperm
      rw [List.drop_length, List.nil_append] at how
      go_wp2
      go_end0
      exact ⟨rfl, T, hperm, hsort, how, hgb⟩
theorem places_step (n k : Nat) (hk : k < n) : (cellsN (List.range k) ++ List.replicate (n - k) (Value.int .i64 0)).set k (.int .i64 (k : Int)) = cellsN (List.range (k + 1)) ++ List.replicate (n - (k + 1)) (.int .i64 0) := by
  have e : n - k = (n - (k + 1)) + 1 := by omega
  have hlen : (cellsN (List.range k)).length = k := by simp [cellsN]
  rw [e, List.replicate_succ, List.set_append_right _ _ (by omega), hlen, Nat.sub_self, List.set_cons_zero, List.range_succ]
  simp [cellsN]
theorem places_at (n k : Nat) (hk : k < n) : (cellsN (List.range k) ++ List.replicate (n - k) (Value.int .i64 0))[k]? = some (.int .i64 0) := by
  have hlen : (cellsN (List.range k)).length = k := by simp [cellsN]
  rw [List.getElem?_append_right (by omega), hlen, Nat.sub_self, List.getElem?_replicate, if_pos (by omega)]

set_option maxHeartbeats 400000 in
theorem placesOf_any (a : Option Addr) (n c : Nat) (w : World) (hn : n ≤ 1048576) :
    Calls Tryz.prog 200 #[.slice a n c] w fun e w' => e = .returned (.slice (some ⟨w.heap.size, 0, none⟩) n n) ∧
      w'.ownsRow w.heap.size 3 1 (.slice (some ⟨w.heap.size, 0, none⟩) n n) n (cellsN (List.range n)) ∧ Below w.heap.size w w' := by
  obtain ⟨i0, hi, hz0, hz1, hz2⟩ := info_parts Tryz.infoInt
  have hbb : i0.bytes * n ≤ 281474976710656 := by rw [hz2]; omega
  go_enter Tryz.func200, Tryz.ntmps200
  go_wp2_with (first
    | (at_make; refine wpList_make_full _ rfl _ _ 29 rfl w.heap.size 3 i0 (.int .i64 0) 1 Tryz.underlying29 hi hz0 hz1 .i64 .i64 n n n rfl rfl rfl rfl hbb (by unfold maxLen; omega) (Nat.le_refl _) ?_; intro w1 hown hgrow)
    | go_in)
  have hown0 : w1.ownsRow w.heap.size 3 1 (.slice (some ⟨w.heap.size, 0, none⟩) n n) n (cellsN (List.range 0) ++ List.replicate (n - 0) (.int .i64 0)) := by
    simpa [toList_madeCells_one, Value.cells, cellsN] using hown
  have hb1 : Below w.heap.size w w1 := (Below.refl _ _).grown hgrow (Nat.le_refl _) (by simp)
  clear hown hgrow
  go_loopw [4, 10] (fun _ i wr => ∃ k : Nat, k ≤ n ∧ i = .int .i64 k ∧ wr.ownsRow w.heap.size 3 1 (.slice (some ⟨w.heap.size, 0, none⟩) n n) n (cellsN (List.range k) ++ List.replicate (n - k) (.int .i64 0)) ∧ Below w.heap.size w wr) (fun _ i _ => n - (intOf i).toNat)
  case atStart => exact ⟨0, Nat.zero_le _, rfl, hown0, hb1⟩
  case round =>
    obtain ⟨k, hk, rfl, hown, hbel⟩ := hrel
    by_cases hlt : k < n
    · have hc2 : wr.cell? ⟨w.heap.size, k, none⟩ = some (.int .i64 0) := (hown.cellAt k (by omega)).trans (places_at n k hlt)
      have hf2 : wr.frozen? ⟨w.heap.size, k, none⟩ = false := hown.frozenAt k
      have hst := hown.stored k (.int .i64 (k : Int))
      rw [places_step n k hlt] at hst
      have hst1 := hst.1
      have hbs : Below w.heap.size w (wr.setCell ⟨w.heap.size, k, none⟩ (.int .i64 (k : Int))) := hbel.setCell (Nat.le_refl _) _
      clear hst hown hbel hown0 hb1
      go_wp2
      go_roundw
      case rel => exact ⟨k + 1, by omega, by go_num, hst1, hbs⟩
      case measure => simp [intOf]; omega
    · have hkn : k = n := by omega
      subst hkn
      go_wp2
      go_ret
      refine ⟨rfl, ?_, hbel⟩
      simpa using hown
theorem insNoneDown (g n cap : Nat) (A B : Int) (fv : Value) (w : World) (h : B ≤ A) (hA : 0 ≤ A) (hA1 : A ≤ 1048576) :
    Calls Tryz.prog 206 #[.slice (some ⟨g, 0, none⟩) n cap, .int .i64 A, .int .i64 B, fv] w fun e w' => e = .returned (.tuple #[]) ∧ w' = w := by
  have h1 : ¬ A + 1 < B := by omega
  go_enter Tryz.func206, Tryz.ntmps206
  go_wp2
  refine wp_loop_rounds 1 ?_
  rw [rounds_succ]
  go_wp2
  go_end0
  exact ⟨rfl, rfl⟩
theorem insSmall_any (base g n cap bx : Nat) (ak : Option Addr) (ck : Nat) (keys : List Int) (w : World) (hown : w.ownsRow base 3 1 (.slice (some ⟨g, 0, none⟩) n cap) n (cellsN (List.range n))) (hk : Keys w bx ak n ck keys) (hbx : bx ≠ g) (hak : ∀ x, ak = some x → x.block ≠ g) (hn : n ≤ 19) :
    Calls Tryz.prog 206 #[.slice (some ⟨g, 0, none⟩) n cap, .int .i64 0, .int .i64 (n : Int), .func (Fn.func 202) #[] #[.pointer (some ⟨bx, 0, none⟩)]] w fun e w' =>
      e = .returned (.tuple #[]) ∧ w'.ownsRow base 3 1 (.slice (some ⟨g, 0, none⟩) n cap) n (cellsN (sortP keys true (List.range n))) ∧ w.grownBy w' (some g) := by
  by_cases h0 : n = 0
  · subst h0
    refine (insNoneDown g 0 cap 0 _ _ w (by omega) (by omega) (by omega)).mono ?_
    rintro e w' ⟨rfl, rfl⟩
    refine ⟨rfl, ?_, World.grownBy.refl _ _⟩
    have : sortP keys true (List.range 0) = List.range 0 := by simp [sortP]
    rw [this]
    exact hown
  · refine (insDown_any base g n cap bx ak n ck keys [] (List.range n) [] 0 n w rfl (by simp) (by simp; omega) (by simpa using hown) hk hbx hak (range_pw n) (fun p hp => List.mem_range.1 hp) (by omega)).mono ?_
    rintro e w' ⟨rfl, M, hp, hs, ho, hg⟩
    obtain rfl := sortP_eq List.nodup_range hp hs
    exact ⟨rfl, by simpa using ho, hg⟩
theorem stableSmall_any (base g n cap bx : Nat) (ak : Option Addr) (ck : Nat) (keys : List Int) (w : World) (hown : w.ownsRow base 3 1 (.slice (some ⟨g, 0, none⟩) n cap) n (cellsN (List.range n))) (hk : Keys w bx ak n ck keys) (hbx : bx ≠ g) (hak : ∀ x, ak = some x → x.block ≠ g) (hn : n ≤ 19) :
    Calls Tryz.prog 204 #[.slice (some ⟨g, 0, none⟩) n cap, .int .i64 (n : Int), .func (Fn.func 202) #[] #[.pointer (some ⟨bx, 0, none⟩)]] w fun e w' =>
      e = .returned (.tuple #[]) ∧ w'.ownsRow base 3 1 (.slice (some ⟨g, 0, none⟩) n cap) n (cellsN (sortP keys true (List.range n))) ∧ w.grownBy w' (some g) := by
  have HK := hide hk
  have HO := hide hown
  clear hk hown
  have h1 : ¬ (20 : Int) ≤ (n : Int) := by omega
  have h2 : ¬ (20 : Int) < (n : Int) := by omega
  go_enter Tryz.func204, Tryz.ntmps204
  go_wp2
  refine wp_loop_rounds 1 ?_
  rw [rounds_succ]
  go_wp2_with fail
  refine (insSmall_any base g n cap bx ak ck keys w HO.out HK.out hbx hak hn).mono ?_
  rintro e w1 ⟨rfl, ho, hg⟩
  have HO1 := hide ho
  have HG1 := hide hg
  clear ho hg
  go_wp2
  refine wp_loop_rounds 1 ?_
  rw [rounds_succ]
  go_wp2
  go_end0
  exact ⟨rfl, HO1.out, HG1.out⟩
theorem stableFuncSmall_any (base g n cap bx : Nat) (ak : Option Addr) (ck : Nat) (keys : List Int) (w : World) (hown : w.ownsRow base 3 1 (.slice (some ⟨g, 0, none⟩) n cap) n (cellsN (List.range n))) (hk : Keys w bx ak n ck keys) (hbx : bx ≠ g) (hak : ∀ x, ak = some x → x.block ≠ g) (hn : n ≤ 19) :
    Calls Tryz.prog 201 #[.slice (some ⟨g, 0, none⟩) n cap, .func (Fn.func 202) #[] #[.pointer (some ⟨bx, 0, none⟩)]] w fun e w' =>
      e = .returned (.tuple #[]) ∧ w'.ownsRow base 3 1 (.slice (some ⟨g, 0, none⟩) n cap) n (cellsN (sortP keys true (List.range n))) ∧ w.grownBy w' (some g) := by
  have HK := hide hk
  have HO := hide hown
  clear hk hown
  go_enter Tryz.func201, Tryz.ntmps201
  go_wp2_with fail
  refine (stableSmall_any base g n cap bx ak ck keys w HO.out HK.out hbx hak hn).mono ?_
  rintro e w1 ⟨rfl, ho, hg⟩
  go_wp2
  go_end0
  exact ⟨rfl, ho, hg⟩

set_option maxHeartbeats 800000 in
theorem implSortSmall_any (ak : Option Addr) (n ck : Nat) (keys : List Int) (w : World) (hr : Rd w ak n keys) (hlt : ∀ x, ak = some x → x.block < w.heap.size) (hn : n ≤ 19) :
    Calls Tryz.prog 196 #[.slice ak n ck] w fun e w' => e = .returned (.slice (some ⟨w.heap.size + 1, 0, none⟩) n n) ∧
      w'.ownsRow w.heap.size 3 1 (.slice (some ⟨w.heap.size + 1, 0, none⟩) n n) n (cellsN (sortP keys true (List.range n))) ∧ Below w.heap.size w w' := by
  have hmf : ∀ (fn : Fn) (first cap : Array Value) (w : World), (Instr.makeFunc fn first cap).run Tryz.prog w = .ok (.func fn first cap) w := fun _ _ _ _ => rfl
  have hb0 : Below w.heap.size w (w.alloc (.cells #[.slice ak n ck] 29)) := (Below.refl _ _).alloc (Nat.le_refl _) _
  have HR := hide (hr.mono hb0)
  have HB0 := hide hb0
  have HLT := hide hlt
  clear hr hb0 hlt
  go_enter Tryz.func196, Tryz.ntmps196
  go_wp2_with fail
  refine (placesOf_any ak n ck _ (by omega)).mono ?_
  rintro e w1 ⟨rfl, ho1, hb1⟩
  have hsz : (w.alloc (.cells #[.slice ak n ck] 29)).heap.size = w.heap.size + 1 := by simp
  rw [hsz] at ho1
  have hcell : w1.cell? ⟨w.heap.size, 0, none⟩ = some (.slice ak n ck) := (hb1.cell (by simp)).trans (by simp [go_sem])
  have HK : Hid (Keys w1 w.heap.size ak n ck keys) := ⟨hcell, HR.out.mono hb1⟩
  have HO := hide ho1
  have hb01 := HB0.out.trans (hb1.mono HB0.out.size)
  have HB1 := hide hb01
  rw [hsz]
  clear ho1 hb1 hb01 hcell hsz
  go_wp2_with fail
  refine (stableFuncSmall_any _ (w.heap.size + 1) n n w.heap.size ak ck keys w1 HO.out HK.out (by omega) ?_ hn).mono ?_
  · intro x hx
    have := HLT.out x hx
    omega
  rintro e w2 ⟨rfl, ho2, hg2⟩
  have hb2 : Below w.heap.size w w2 := HB1.out.grown hg2 HB1.out.size (by intro k hk; cases hk; omega)
  have ho3 : w2.ownsRow w.heap.size 3 1 (.slice (some ⟨w.heap.size + 1, 0, none⟩) n n) n (cellsN (sortP keys true (List.range n))) := own_less ho2 (by omega)
  have HO3 := hide ho3
  clear ho2 hg2 ho3
  go_wp2
  go_ret
  exact ⟨rfl, HO3.out, hb2⟩
end Go.Proofs.YtphdeojiehigpaaGreatDoor

/- First fit of the program. -/
namespace Go.Proofs.YtphdeojiehigpaaGreatDoor
open Go Go.RowKit
set_option linter.unusedVariables false
set_option linter.unusedSimpArgs false

theorem Pk.setOther {base Bk : Nat} {ea : Option Addr} {N ecap : Nat} {M G : Int} {ov fv : Value} {rs : List RowW} {fs : List BulkV} {w : World} {F j : Nat} (h : Pk base Bk ea N ecap M G ov fv rs fs w) (hF : F < base) (hB : Bk ≠ F) (u : Value) : Pk base Bk ea N ecap M G ov fv rs fs (w.setCell ⟨F, j, none⟩ u) :=
  ⟨h.lt, by simpa using h.sz, h.blk.other hB, ⟨ownsRow_setCell_below h.cart.out hF _, fun i hi => ownsRow_setCell_below (h.cart.row i hi) hF _, h.cart.apart, h.cart.far⟩, ownsRow_setCell_below h.fill hF _, h.off⟩
theorem PkOk.setOther {xs : List ItemV} {t : TypeV} {base Bk eb N ecap : Nat} {gs : List (List Int)} {w : World} {F j : Nat} (h : PkOk xs t base Bk eb N ecap gs w) (hF : F < base) (hB : Bk ≠ F) (he : eb ≠ F) (u : Value) : PkOk xs t base Bk eb N ecap gs (w.setCell ⟨F, j, none⟩ u) := by
  obtain ⟨ea, oa, oc, fa, fc, n, rs, fs, h0, hp, h1, h2, h3, h4, h5, h6, h7⟩ := h
  exact ⟨ea, oa, oc, fa, fc, n, rs, fs, h0, hp.setOther hF hB u, h1, h2, h3, h4, h5.keep (Below.heap_setCell _ _ _ _ (by simpa using he)) (by simp), h6, h7⟩
theorem take_map_step {α : Type} (f : Int → α) (us : List Int) (k : Nat) (h : k < us.length) : (us.take (k + 1)).map f = (us.take k).map f ++ [f (us.getD k 0)] := by
  rw [List.take_succ_eq_append_getElem h, List.map_append]
  simp [List.getD_eq_getElem?_getD, h]
theorem own_lowB {w : World} {b0 base e size n g cap : Nat} {xs : List Value} (h : w.ownsRow base e size (.slice (some ⟨g, 0, none⟩) n cap) n xs) (hb : b0 ≤ base) : w.ownsRow b0 e size (.slice (some ⟨g, 0, none⟩) n cap) n xs := by
  refine ⟨h.1, ?_⟩
  rcases h.2 with h' | ⟨g', cap', cur, h1, h2, h3, h4⟩
  · exact Or.inl h'
  · exact Or.inr ⟨g', cap', cur, h1, by omega, h3, h4⟩
theorem cellsN_getD (l : List Nat) (i : Nat) (h : i < l.length) : (cellsN l)[i]? = some (.int .i64 ((l.getD i 0 : Nat) : Int)) := by
  rw [cellsN_at l i h]
  simp [List.getD_eq_getElem?_getD, h]

set_option maxHeartbeats 4000000 in
theorem greatestFirst_any (xs : List ItemV) (Bk eb N ecap : Nat) (ea : Option Addr) (c1 c2 c3 c4 : Value) (a : Option Addr) (n c : Nat) (us : List Int) (w : World) (hk : Blk w Bk [.slice ea N ecap, c1, c2, c3, c4]) (hbk : Bk < w.heap.size) (hea : 0 < N → ea = some ⟨eb, 0, none⟩) (hE : EachOk w eb N xs) (hin : ∀ k, k < n → ∃ v : Nat, us.getD k 0 = v ∧ v < N) (hu : Rd w a n us) (hn : n ≤ 19) :
    Calls Tryz.prog 180 #[.pointer (some ⟨Bk, 0, none⟩), .slice a n c] w fun e w' => ∃ g cap, e = .returned (.slice (some ⟨g, 0, none⟩) n cap) ∧ w'.ownsRow w.heap.size 3 1 (.slice (some ⟨g, 0, none⟩) n cap) n (ci (sortedU xs us)) ∧ Below w.heap.size w w' := by
  obtain ⟨i0, hi, hz0, hz1, hz2⟩ := info_parts Tryz.infoInts
  have HK := hide hk
  have HU := hide hu
  have HE := hide hE
  have hul := hu.1
  clear hk hu hE
  go_enter Tryz.func180, Tryz.ntmps180
  go_wp2
  have O1 := hide (own_lit0 (e := 3) (size := 1) w (Nat.le_refl _))
  have B1 : Hid (Below w.heap.size w (w.alloc (.cells #[] 3))) := (Below.refl _ _).alloc (Nat.le_refl _) _
  generalize (w.alloc (.cells #[] 3)) = w1 at *
  go_loopw [5, 14] (fun o i wr => ∃ (k g cap : Nat), k ≤ n ∧ i = .int .i64 k ∧ o = .slice (some ⟨g, 0, none⟩) k cap ∧ wr.ownsRow w.heap.size 3 1 (.slice (some ⟨g, 0, none⟩) k cap) k (ci ((us.take k).map (volAt xs))) ∧ Below w.heap.size w wr) (fun _ i _ => n - (intOf i).toNat)
  case atStart => exact ⟨0, w.heap.size, 0, Nat.zero_le _, rfl, rfl, unhide O1, unhide B1⟩
  case round =>
    clear O1 B1
    obtain ⟨k, g, cap, hk, rfl, rfl, hown, hbel⟩ := hrel
    have HO := hide hown
    have HB := hide hbel
    by_cases hlk : k < n
    case pos =>
      obtain ⟨b, off, hua, hc⟩ := (HU.out.mono hbel).2 k hlk
      have hku : k < us.length := by omega
      have HST := hide (take_map_step (volAt xs) us k hku)
      obtain ⟨v, hv, hvN⟩ := hin k hlk
      rw [hv] at hc HST
      have hea2 := hea (by omega)
      subst hua
      subst hea2
      have c0 : wr.cell? ⟨Bk, 0, none⟩ = some (.slice (some ⟨eb, 0, none⟩) N ecap) := (hbel.cell (p := ⟨Bk, 0, none⟩) hbk).trans (HK.out 0 (by simp)).1
      have ce := (hbel.cell (p := ⟨eb, v * 2, none⟩) HE.out.1).trans (HE.out.2 v hvN).1
      have hN : N ≤ 1 ∨ 1 < N := by omega
      clear hN
      obtain ⟨x, hx⟩ : ∃ x, volAt xs (v : Int) = x := ⟨_, rfl⟩
      rw [hx] at ce HST
      have hz : w.heap.size ≤ wr.heap.size := hbel.size
      clear hown hbel hv hx
      have O3 := hide (HO.out.alloc (.cells #[.int .i64 x] 3))
      go_wp2_with (first
        | (at_builtin; refine wpList_append_lies _ rfl _ _ 29 rfl w.heap.size 3 i0 (.int .i64 0) 1 8 Tryz.underlying29 hi hz0 hz1 hz2 rfl (by omega) (.slice (some ⟨g, 0, none⟩) k cap) k (ci ((us.take k).map (volAt xs))) rfl O3.out ⟨wr.heap.size, 0, none⟩ 1 1 [.int .i64 x] rfl rfl (World.news_of_block (heap_alloc_new _ _)) (by simp [Value.oneCell']) (by omega) (by unfold maxLen; omega) (by omega) (by simp; omega) (wr.heap.size + 1) (by simp) ?_; intro g3 cap3 w3 ho3 hg3 hat3 hlt3)
        | fail)
      have B4 : Hid (Below w.heap.size w w3) := (HB.out.alloc hz (.cells #[.int .i64 x] 3)).grown hg3 (by simp; omega) (fun q hq => by simp [Value.ownBlock] at hq; have := own_base HO.out; omega)
      have O4 : Hid (w3.ownsRow w.heap.size 3 1 (.slice (some ⟨g3, 0, none⟩) (k + 1) cap3) (k + 1) (ci ((us.take (k + 1)).map (volAt xs)))) := by rw [unhide HST, ci_snoc]; exact ho3
      clear ho3 hg3 hat3 hlt3
      go_roundw
      case rel => exact ⟨k + 1, g3, cap3, by omega, by go_num, rfl, unhide O4, unhide B4⟩
      case measure => simp [intOf]; omega
    case neg =>
      obtain rfl : k = n := by omega
      have e : us.take k = us := List.take_of_length_le (by omega)
      rw [e] at hown HO
      have hz := hbel.size
      have hlt := (hown.lt g rfl).2
      have R2 : Hid (Rd wr (some ⟨g, 0, none⟩) k (us.map (volAt xs))) := Rd.of_owns hown
      clear hown hbel e
      go_wp2_with fail
      have O5 := hide (own_lit0 (e := 3) (size := 1) wr (Nat.le_refl _))
      have b5 := (Below.refl wr.heap.size wr).alloc (Nat.le_refl _) (.cells #[] 3)
      have hz5 : wr.heap.size < (wr.alloc (.cells #[] 3)).heap.size := by simp
      generalize (wr.alloc (.cells #[] 3)) = w5 at *
      have B5 := hide (HB.out.trans (b5.mono hz))
      have R5 := R2.out.mono b5
      refine (implSortSmall_any (some ⟨g, 0, none⟩) k cap (us.map (volAt xs)) w5 R5 (fun x hx => by cases hx; show g < _; omega) hn).mono ?_
      rintro e w6 ⟨rfl, ho6, hb6⟩
      have O6 : Hid (w6.ownsRow w5.heap.size 3 1 (.slice (some ⟨w5.heap.size + 1, 0, none⟩) k k) k (cellsN (placesU xs us))) := by
        have hl : us.length = k := by omega
        rw [Hid, placesU, hl]
        exact ho6
      have O7 := hide (own_later O5.out hb6)
      have B6 := hide (B5.out.trans (hb6.mono B5.out.size))
      have hlt6 : w5.heap.size + 1 < w6.heap.size := (ho6.lt _ rfl).2
      have hz6 := hb6.size
      clear ho6 hb6 R5 b5 O5 B5 HB HO R2
      generalize w5.heap.size + 1 = P5 at *
      go_wp2_with fail
      generalize wr.heap.size = B0 at *
      go_loopw [8, 34] (fun o i wq => ∃ (j g cap : Nat), j ≤ k ∧ i = .int .i64 j ∧ o = .slice (some ⟨g, 0, none⟩) j cap ∧ wq.ownsRow B0 3 1 (.slice (some ⟨g, 0, none⟩) j cap) j (ci ((sortedU xs us).take j)) ∧ g ≠ P5 ∧ wq.ownsRow w5.heap.size 3 1 (.slice (some ⟨P5, 0, none⟩) k k) k (cellsN (placesU xs us)) ∧ Below w.heap.size w wq) (fun _ i _ => k - (intOf i).toNat)
      case atStart => exact ⟨0, B0, 0, Nat.zero_le _, rfl, rfl, unhide O7, by have := O6.out.lt P5 rfl; omega, unhide O6, unhide B6⟩
      case round =>
        clear O7 O6 B6
        obtain ⟨j, g, cap, hj, rfl, rfl, hown, hgp, hpl, hbel⟩ := hrel
        have HO := hide hown
        have HB := hide hbel
        have HP := hide hpl
        by_cases hlj : j < k
        case pos =>
          have hp := placesU_lt (xs := xs) (us := us) (k := j) (by omega)
          have HST := hide (sortedU_take (xs := xs) (us := us) (k := j) (by omega))
          have c1 := (hpl.cellAt j (by omega)).trans (cellsN_getD _ _ (by rw [placesU_len]; omega))
          generalize (placesU xs us).getD j 0 = p at *
          obtain ⟨b, off, hua, hc⟩ := (HU.out.mono hbel).2 p (by omega)
          subst hua
          have hpn : p < k := by omega
          obtain ⟨x, hx⟩ : ∃ x, us.getD p 0 = x := ⟨_, rfl⟩
          rw [hx] at hc HST
          have hz : w.heap.size ≤ wr.heap.size := hbel.size
          have hz7 : B0 ≤ wr.heap.size := by have := (hown.lt g rfl); omega
          clear hown hbel hpl hx hp
          have O3 := hide (HO.out.alloc (.cells #[.int .i64 x] 3))
          go_wp2_with (first
            | (at_builtin; refine wpList_append_lies _ rfl _ _ 29 rfl B0 3 i0 (.int .i64 0) 1 8 Tryz.underlying29 hi hz0 hz1 hz2 rfl (by omega) (.slice (some ⟨g, 0, none⟩) j cap) j (ci ((sortedU xs us).take j)) rfl O3.out ⟨wr.heap.size, 0, none⟩ 1 1 [.int .i64 x] rfl rfl (World.news_of_block (heap_alloc_new _ _)) (by simp [Value.oneCell']) (by omega) (by unfold maxLen; omega) (by omega) (by simp; omega) (wr.heap.size + 1) (by simp) ?_; intro g3 cap3 w3 ho3 hg3 hat3 hlt3)
            | fail)
          have B4 : Hid (Below w.heap.size w w3) := (HB.out.alloc hz (.cells #[.int .i64 x] 3)).grown hg3 (by simp; omega) (fun q hq => by simp [Value.ownBlock] at hq; have := own_base HO.out; omega)
          have O4 : Hid (w3.ownsRow B0 3 1 (.slice (some ⟨g3, 0, none⟩) (j + 1) cap3) (j + 1) (ci ((sortedU xs us).take (j + 1)))) := by rw [unhide HST, ci_snoc]; exact ho3
          have P4 : Hid (w3.ownsRow w5.heap.size 3 1 (.slice (some ⟨P5, 0, none⟩) k k) k (cellsN (placesU xs us))) := (HP.out.alloc _).kept hg3 (.inr (fun e => hgp (Eq.symm (by simpa [Value.ownBlock] using e))))
          have N4 : g3 ≠ P5 := by
            have := (HP.out.lt P5 rfl).2
            exact Ne.symm (ne_new (b := P5) hat3 (fun e => hgp e.symm) (by omega))
          clear ho3 hg3 hat3 hlt3
          go_roundw
          case rel => exact ⟨j + 1, g3, cap3, by omega, by go_num, rfl, unhide O4, N4, unhide P4, unhide B4⟩
          case measure => simp [intOf]; omega
        case neg =>
          obtain rfl : j = k := by omega
          have e : (sortedU xs us).take j = sortedU xs us := List.take_of_length_le (by rw [sortedU_len]; omega)
          rw [e] at HO
          clear hown hbel hpl e
          go_wp2
          go_ret
          exact ⟨g, cap, rfl, own_lowB HO.out hz, unhide HB⟩

set_option maxRecDepth 100000 in
set_option maxHeartbeats 4000000 in
theorem firstFitRun_any (xs : List ItemV) (t : TypeV) (Bk eb N ecap : Nat) (ea : Option Addr) (a : Option Addr) (n c : Nat) (us : List Int) (w : World) (hk : Blk w Bk [.slice ea N ecap, .int .i64 (vol t.wd t.ht t.dp), .int .i64 t.gram, .slice none 0 0, .slice none 0 0]) (hbk : Bk < w.heap.size) (hea : 0 < N → ea = some ⟨eb, 0, none⟩) (hE : EachOk w eb N xs) (hne : eb ≠ Bk) (hu : Rd w a n us) (hin : ∀ k, k < n → ∃ v : Nat, us.getD k 0 = v ∧ v < N) (hgd : ∀ q ∈ xs, 1 ≤ q.gram ∧ q.gram ≤ 100000) (hn : n ≤ 19) (hN12 : N ≤ 12) :
    Calls Tryz.prog 139 #[.pointer (some ⟨Bk, 0, none⟩), .slice a n c] w fun e w' => e = .returned (.tuple #[]) ∧ (∃ base, w.heap.size ≤ base ∧ PkOk xs t base Bk eb N ecap (firstTo (roomB xs t) (sortedU xs us) n) w') ∧ Fr w.heap.size Bk w w' := by
  obtain ⟨i0, hi, hz0, hz1, hz2⟩ := info_parts Tryz.infoInts
  have hbb : i0.bytes * N ≤ 281474976710656 := by rw [hz2]; omega
  have HK := hide hk
  have HU := hide hu
  have HE := hide hE
  have HEA := hide hea
  have HIN := hide hin
  have hul := hu.1
  have c0 : w.cell? ⟨Bk, 0, none⟩ = some (.slice ea N ecap) := (hk 0 (by simp)).1
  clear hk hu hE hea hin
  go_enter Tryz.func139, Tryz.ntmps139
  go_wp2_with (first
    | (at_make; refine wpList_make_full _ rfl _ _ 29 rfl w.heap.size 3 i0 (.int .i64 0) 1 Tryz.underlying29 hi hz0 hz1 .i64 .i64 N N N rfl rfl rfl rfl hbb (by unfold maxLen; omega) (Nat.le_refl _) ?_; intro w1 hown hgrow)
    | fail)
  have hown0 : w1.ownsRow w.heap.size 3 1 (.slice (some ⟨w.heap.size, 0, none⟩) N N) N (cellsN (List.replicate N 0)) := by
    simpa [toList_madeCells_one, Value.cells, cellsN] using hown
  have hb1 : Below w.heap.size w w1 := (Below.refl _ _).grown hgrow (Nat.le_refl _) (by simp)
  have hlt1 := (hown0.lt _ rfl).2
  have HF1 : Hid (Blk w1 w.heap.size (cellsN (List.replicate N 0))) := fun i hi => ⟨hown0.cellAt i (by simpa [cellsN] using hi), hown0.frozenAt i⟩
  have K1 := hide (Blk.below hb1 hbk HK.out)
  have E1 := hide (HE.out.later hb1)
  have U1 := hide (HU.out.mono hb1)
  have hbk1 : Bk < w1.heap.size := Nat.lt_of_lt_of_le hbk hb1.size
  have HB1 := hide hb1
  clear hown hown0 hgrow hb1 c0
  go_wp2_with fail
  refine (greatestFirst_any xs Bk eb N ecap ea _ _ _ _ a n c us w1 K1.out hbk1 HEA.out E1.out HIN.out U1.out hn).mono ?_
  rintro e w2 ⟨sg, sc, rfl, hso, hb2⟩
  have HF2 := hide (Blk.below hb2 hlt1 HF1.out)
  have K2 := hide (Blk.below hb2 hbk1 K1.out)
  have E2 := hide (E1.out.later hb2)
  have hbk2 : Bk < w2.heap.size := Nat.lt_of_lt_of_le hbk1 hb2.size
  have hlt2 : w.heap.size < w2.heap.size := Nat.lt_of_lt_of_le hlt1 hb2.size
  have HFR2 : Hid (Fr w.heap.size Bk w w2) := Fr.of (HB1.out.trans (hb2.mono HB1.out.size))
  have hsg := hso.lt sg rfl
  have S2 : Hid (Rd w2 (some ⟨sg, 0, none⟩) n (sortedU xs us)) := Rd.of_owns hso
  have HE0 := HE.out.1
  have P2 : Hid (PkOk xs t w2.heap.size Bk eb N ecap [] w2) := PkOk.new hbk2 (Nat.le_refl _) K2.out HEA.out E2.out (by omega) hne
  have HSIN : Hid (∀ k, k < n → ∃ v : Nat, (sortedU xs us).getD k 0 = v ∧ v < N) := fun k hk => by
    rw [sortedU_at (by omega)]
    exact HIN.out _ (by have := placesU_lt (xs := xs) (us := us) (k := k) (by omega); omega)
  have hsl : (sortedU xs us).length = n := by rw [sortedU_len]; exact hul
  clear hso hb2 HF1 K1 E1 U1 HB1
  generalize hsu : sortedU xs us = su at *
  have HSU := hide hsu
  clear hsu
  go_wp2_with fail
  have hz12 : w2.heap.size ≤ w2.heap.size := Nat.le_refl _
  go_loopw [17] (fun i wr => ∃ (k : Nat) (fr : List Nat), k ≤ n ∧ i = .int .i64 k ∧ fr.length = N ∧ FromOk (roomB xs t) (firstTo (roomB xs t) su k) fr ∧ Blk wr w.heap.size (cellsN fr) ∧ PkOk xs t w2.heap.size Bk eb N ecap (firstTo (roomB xs t) su k) wr ∧ Rd wr (some ⟨sg, 0, none⟩) n su ∧ Fr w.heap.size Bk w wr ∧ w2.heap.size ≤ wr.heap.size) (fun i _ => n - (intOf i).toNat)
  case atStart =>
    refine ⟨0, List.replicate N 0, Nat.zero_le _, rfl, by simp, fun v hv => ?_, unhide HF2, unhide P2, unhide S2, unhide HFR2, Nat.le_refl _⟩
    rw [List.length_replicate] at hv
    have e : (List.replicate N 0).getD v 0 = 0 := by simp [List.getD_eq_getElem?_getD, hv]
    rw [e]
    exact ⟨Nat.zero_le _, fun j hj => absurd hj (Nat.not_lt_zero _)⟩
  case round =>
    clear HF2 P2 S2 HFR2 K2 E2
    obtain ⟨k, fr, hk, rfl, hfl, hfo, hF, hpk, hS, hfr, hzz⟩ := hrel
    have HP := hide hpk
    have HFR := hide hfr
    have HS := hide hS
    have HF := hide hF
    have HFO := hide hfo
    by_cases hlk : k < n
    case neg =>
      obtain rfl : k = n := by omega
      clear hfo hF hpk hS hfr
      go_wp2
      first | go_end0 | refine bodyPost_ret (results_none rfl _ _ _) rfl ?_
      exact ⟨rfl, ⟨w2.heap.size, by omega, by rw [unhide HSU]; exact unhide HP⟩, unhide HFR⟩
    obtain ⟨b, off, hua, hc⟩ := hS.2 k hlk
    obtain ⟨v, hv, hvN⟩ := HSIN.out k hlk
    have HST := hide (firstTo_step (roomB xs t) su k (by omega))
    have htt := firstTo_tot (roomB xs t) su k (by omega)
    rw [hv] at HST hc
    have hv2 : v < fr.length := by omega
    have cf := (hF v (by simpa [cellsN] using hv2)).1
    rw [cellsN_getD fr v hv2] at cf
    have hfv := hfo v hv2
    generalize firstTo (roomB xs t) su k = gs at *
    have hg9 : gs.length ≤ 1048590 := by omega
    have ht9 : tot2 gs ≤ 1048590 := by omega
    have HCALL := hide (putFrom_any xs t w2.heap.size Bk eb N ecap (fr.getD v 0) v gs wr hpk hfv.1 hvN hgd ht9 hg9)
    have HNO := hide hfv.2
    injection hua with hua
    injection hua with hb1 hb2
    subst hb1 hb2
    rw [Nat.zero_add] at hc
    have HVV := hide hv
    clear hfo hF hpk hS hfr hfv ht9 htt hv
    generalize hq : fr.getD v 0 = q at *
    clear hq
    go_wp2_with fail
    refine HCALL.out.mono ?_
    rintro e w3 ⟨p, rfl, hfo, hp2, hf2⟩
    have hpl := hfo.first HNO.out
    have hFb : w3.heap[w.heap.size]? = wr.heap[w.heap.size]? := hf2.block _ (by omega) (by omega)
    have HF3 : Hid (Blk w3 w.heap.size (cellsN fr)) := HF.out.keep hFb
    have cz := (HF3.out v (by simpa [cellsN] using hv2)).2
    have cw := (HF3.out v (by simpa [cellsN] using hv2)).1
    rw [cellsN_getD fr v hv2] at cw
    have S3 := hide (HS.out.fr hf2 (fun x hx => by cases hx; exact ⟨by show sg < _; omega, by show sg ≠ Bk; omega⟩))
    have HP3 := hide hp2
    have HR3 := hide (HFR.out.trans (hf2.mono (by omega)))
    have hz3 := hf2.size
    clear hp2 hf2 hfo HCALL HNO HF HS HP HFR hFb
    go_wp2_with fail
    go_roundw
    case rel =>
      refine ⟨k + 1, fr.set v p, by omega, by go_num, by rw [List.length_set]; exact hfl, ?_, ?_, ?_, ?_, HR3.out.set (p := ⟨w.heap.size, v, none⟩) (.inr (Nat.le_refl _)) _, by simp; omega⟩
      · rw [unhide HST, firstStep, hpl]
        have := HFO.out.put (fun g u v h => roomB_less hgd g u v h) v hv2
        rw [hpl] at this
        exact this
      · have := HF3.out.set (j := v) (v := .int .i64 (p : Int)) (by simpa [cellsN] using hv2)
        rw [show (cellsN fr).set v (.int .i64 (p : Int)) = cellsN (fr.set v p) by simp [cellsN, List.map_set]] at this
        exact this
      · rw [unhide HST, firstStep, hpl]
        exact HP3.out.setOther (by omega) (by omega) (by omega) _
      · exact Rd.grown S3.out (gb_set (World.grownBy.refl _ _) _ _) (fun x hx => by cases hx; show sg ≠ w.heap.size; omega)
    case measure => simp [intOf]; omega
end Go.Proofs.YtphdeojiehigpaaGreatDoor

/- First fit of an order. -/
namespace Go.Proofs.YtphdeojiehigpaaGreatDoor
open Go Go.RowKit
set_option linter.unusedVariables false
set_option linter.unusedSimpArgs false

set_option maxRecDepth 100000 in
set_option maxHeartbeats 4000000 in
theorem packByFirst_any (r : ReqV) (h : ReqH) (a : Option Addr) (n c : Nat) (us : List Int) (w : World) (hr : RdReq w r h) (hs : r.small) (hg : ErrT w) (hu : Rd w a n us) (hn : n ≤ 19) :
    Calls Tryz.prog 105 #[reqVal r h, .slice a n c, .int .i64 0] w fun e w' => ∃ oa oc rows, e = .returned (.slice oa (firstR r us).length oc) ∧ Own2A w' w.heap.size oa oc rows ∧ rows.map RowV.l = firstR r us ∧ Below w.heap.size w w' := by
  have HR := hide hr
  have HG := hide hg
  have HU := hide hu
  have HIN : Hid (∀ k, k < (knownL (itemsR r) us).length → ∃ v : Nat, (knownL (itemsR r) us).getD k 0 = v ∧ v < (unitsR r).length) := fun k hk => knownL_at hk
  have HN12 := hide (unitsR_len r)
  clear hr hg hu
  unfold reqVal
  go_enter Tryz.func105, Tryz.ntmps105
  go_wp2_with fail
  generalize hW : (w.alloc (.cells #[.int .i64 r.way, .int .i64 r.pal.wd, .int .i64 r.pal.dp, .int .i64 r.pal.ht, .int .i64 r.pal.gram, .int .i64 r.classes, .slice h.ap r.pairs.length h.cp, .slice h.at' r.types.length h.ct, .int .i64 r.master, .slice h.ai r.items.length h.ci] 40)) = W at *
  obtain ⟨BW, KaW, ZaW⟩ := en1 hW
  have Ga : w.heap.size ≤ w.heap.size := by omega
  clear hW
  refine (class_any r h _ (HR.out.mono BW.out) hs (HG.out.later BW.out)).mono ?_
  rintro e v1 ⟨rfl, hb⟩
  have Bv1 := hide (BW.out.trans (hb.mono BW.out.size))
  have Kav1 := hide (Blk.below hb ZaW KaW.out)
  have Zav1 := Nat.lt_of_lt_of_le ZaW hb.size
  clear hb
  clear BW KaW ZaW
  by_cases hz : classI r = 0
  case neg =>
    have hne : (classI r != 0) = true := by simp [hz]
    have HE : Hid (firstR r us = []) := firstR_not hz us
    clear hz
    go_wp2
    go_ret
    rw [unhide HE]
    exact ⟨none, 0, [], rfl, .inl ⟨rfl, rfl, rfl⟩, rfl, unhide Bv1⟩
  rw [hz]
  clear hz
  obtain ⟨ca0, ca1, ca2, ca3, ca4, ca5, ca6, ca7, ca8, ca9⟩ := Blk.cs10 Kav1.out
  go_wp2_with fail
  clear ca0 ca1 ca2 ca3 ca4 ca5 ca6 ca7 ca8 ca9
  generalize hW : (v1.alloc (.cells #[.func (.func 139) #[] #[], .func (.func 140) #[] #[]] 165)) = v2 at *
  obtain ⟨hb, Kfv2, Zfv2⟩ := en1 hW
  have hb := unhide hb
  have Bv2 := hide (Bv1.out.trans (hb.mono Bv1.out.size))
  have Gf : w.heap.size ≤ v1.heap.size := Bv1.out.size
  have Kav2 := hide (Blk.below hb Zav1 Kav1.out)
  have Zav2 := Nat.lt_of_lt_of_le Zav1 hb.size
  have Nqaf : w.heap.size ≠ v1.heap.size := Nat.ne_of_lt Zav1
  have Nqfa := Ne.symm Nqaf
  clear hb hW
  clear Bv1 Kav1 Zav1
  have BQ := Bv2
  refine (packerOf_any r h _ (HR.out.mono Bv2.out) hs (HG.out.later Bv2.out)).mono ?_
  rintro e v3 ⟨Bk, eb, ec, ea, rfl, hB1, hB2, hBl, hea, hE, hne, hb⟩
  have Bv3 := hide (Bv2.out.trans (hb.mono Bv2.out.size))
  have Kav3 := hide (Blk.below hb Zav2 Kav2.out)
  have Zav3 := Nat.lt_of_lt_of_le Zav2 hb.size
  have Kfv3 := hide (Blk.below hb Zfv2 Kfv2.out)
  have Zfv3 := Nat.lt_of_lt_of_le Zfv2 hb.size
  clear hb
  clear Bv2 Kav2 Zav2 Kfv2 Zfv2
  have Kpv3 := hide hBl
  have Zpv3 := hB2
  have HEA := hide hea
  have HB1 : Hid (w.heap.size ≤ Bk) := Nat.le_trans BQ.out.size hB1
  clear hBl hea
  have QEv3 := hide hE
  clear hE hB1
  go_upto_region 5 with fail
  go_cut [8] (fun v wc => v = .pointer (some ⟨Bk, 0, none⟩) ∧ (∃ base, w.heap.size ≤ base ∧ PkOk (itemsR r) (masterV r) base Bk eb (unitsR r).length ec (firstTo (roomB (itemsR r) (masterV r)) (sortedU (itemsR r) (knownL (itemsR r) us)) (knownL (itemsR r) us).length) wc) ∧ Below w.heap.size w wc)
  case first =>
    refine wp_region_noPanic ?_
    have Bu0 : Hid (Below w.heap.size w v3.drew) := Bv3.out.drew
    have QEu0 : Hid (EachOk v3.drew eb (unitsR r).length (itemsR r)) := QEv3.out.later (Below.refl _ _).drew
    have Kau0 : Hid (Blk v3.drew w.heap.size [.int .i64 r.way, .int .i64 r.pal.wd, .int .i64 r.pal.dp, .int .i64 r.pal.ht, .int .i64 r.pal.gram, .int .i64 r.classes, .slice h.ap r.pairs.length h.cp, .slice h.at' r.types.length h.ct, .int .i64 r.master, .slice h.ai r.items.length h.ci]) := unhide Kav3
    have Zau0 : w.heap.size < v3.drew.heap.size := Zav3
    have Kfu0 : Hid (Blk v3.drew v1.heap.size [.func (.func 139) #[] #[], .func (.func 140) #[] #[]]) := unhide Kfv3
    have Zfu0 : v1.heap.size < v3.drew.heap.size := Zfv3
    have Kpu0 : Hid (Blk v3.drew Bk [.slice ea (unitsR r).length ec, .int .i64 (vol (masterV r).wd (masterV r).ht (masterV r).dp), .int .i64 (masterV r).gram, .slice none 0 0, .slice none 0 0]) := unhide Kpv3
    have Zpu0 : Bk < v3.drew.heap.size := Zpv3
    obtain ⟨S, hSdef⟩ : ∃ S : World → Prop, S = (fun w' => w'.cell? ⟨v1.heap.size, 0, none⟩ = some (.func (.func 139) #[] #[])) := ⟨_, rfl⟩
    have hSmk : ∀ wq, Blk wq v1.heap.size [.func (.func 139) #[] #[], .func (.func 140) #[] #[]] → S wq := fun wq kf => by rw [hSdef]; exact (kf 0 (by simp)).1
    have hSd : ∀ wq, S wq → (fun w' => w'.cell? ⟨v1.heap.size, 0, none⟩ = some (.func (.func 139) #[] #[])) wq := fun wq h => by rw [hSdef] at h; exact h
    clear hSdef
    have hHeld : S v3.drew := hSmk v3.drew Kfu0.out
    refine wp_region_to (S := S) (T := [7]) (by kernel_rfl) hHeld (fun _ => ?_)
    generalize v3.drew = u0 at *
    refine wpTo_ts (i := 0) (v := ?_) rfl (by kernel_rfl) hSd (by rfl) (fun w hSw => ?_) (by assumption) ?_
    rotate_left
    · ((try dsimp only [RqC] at hSw); go_simp <;> with_reducible rfl)
    refine wpTo_ts (i := 1) (v := ?_) rfl (by kernel_rfl) hSd (by rfl) (fun w hSw => ?_) (by assumption) ?_
    rotate_left
    · ((try dsimp only [RqC] at hSw); go_simp <;> with_reducible rfl)
    refine wpTo_ts (i := 2) (v := ?_) rfl (by kernel_rfl) hSd (by rfl) (fun w hSw => ?_) (by assumption) ?_
    rotate_left
    · ((try dsimp only [RqC] at hSw); go_simp <;> with_reducible rfl)
    try simp only [Act.put, zz1, zz2, zz3, zz4, zz5, zz6]
    refine wpTo_ts (i := 3) (v := ?_) rfl (by kernel_rfl) hSd (by rfl) (fun w hSw => ?_) (by assumption) ?_
    rotate_left
    · ((try dsimp only [RqC] at hSw); go_simp <;> with_reducible rfl)
    refine wpTo_ts (i := 4) (v := ?_) rfl (by kernel_rfl) hSd (by rfl) (fun w hSw => ?_) (by assumption) ?_
    rotate_left
    · ((try dsimp only [RqC] at hSw); go_simp <;> with_reducible rfl)
    refine wpTo_ts (i := 5) (v := ?_) rfl (by kernel_rfl) hSd (by rfl) (fun w hSw => ?_) (by assumption) ?_
    rotate_left
    · ((try dsimp only [RqC] at hSw); go_simp <;> with_reducible rfl)
    try simp only [Act.put, zz1, zz2, zz3, zz4, zz5, zz6]
    refine wpTo_ready (rs := [6]) (by kernel_rfl) (by simp) ?_
    refine AllTo.cons (o := _) rfl (fun K hK => ?_) ?_
    ·
     (try simp only [zz1, zz2, zz3])
     go_simp
     refine (there_any (itemsR r) Bk (unitsR r).length ec ea _ _ _ _ a n c us u0 Kpu0.out Zpu0 rfl (by have := unitsR_len r; omega) (HU.out.mono Bu0.out) (by omega)).mono ?_
     rintro e u4 ⟨tg, tc, rfl, hto, hb⟩
     have Bu4 := hide (Bu0.out.trans (hb.mono Bu0.out.size))
     have Kau4 := hide (Blk.below hb Zau0 Kau0.out)
     have Zau4 := Nat.lt_of_lt_of_le Zau0 hb.size
     have Kfu4 := hide (Blk.below hb Zfu0 Kfu0.out)
     have Zfu4 := Nat.lt_of_lt_of_le Zfu0 hb.size
     have Kpu4 := hide (Blk.below hb Zpu0 Kpu0.out)
     have Zpu4 := Nat.lt_of_lt_of_le Zpu0 hb.size
     have QEu4 : Hid (EachOk u4 eb (unitsR r).length (itemsR r)) := QEu0.out.later hb
     have QTu4 : Hid (u4.ownsRow u0.heap.size 3 1 (.slice (some ⟨tg, 0, none⟩) (knownL (itemsR r) us).length tc) (knownL (itemsR r) us).length (ci (knownL (itemsR r) us))) := hto
     have HUB : Hid (∀ x, (some ⟨tg, 0, none⟩ : Option Addr) = some x → x.block < u4.heap.size ∧ x.block ≠ Bk) := fun x hx => by cases hx; have h1 := hto.lt tg rfl; exact ⟨h1.2, by show tg ≠ Bk; have := Zpu0; omega⟩
     clear hto
     clear hb
     clear Bu0 Kau0 Zau0 Kfu0 Zfu0 Kpu0 Zpu0 QEu0
     clear hHeld
     go_wp2_with fail
     have hHeld := hSmk u4 Kfu4.out
     refine hK.out _ _ (fun _ => hHeld) ?_
     clear hK K
     try simp only [Act.put, zz1, zz2, zz3, zz4, zz5, zz6]
     refine wpTo_ready (rs := [7]) (by kernel_rfl) (by simp) ?_
     refine AllTo.cons (o := _) rfl (fun K hK => ?_) ?_
     ·
      (try simp only [zz1, zz2, zz3])
      go_simp
      refine (firstFitRun_any (itemsR r) (masterV r) Bk eb (unitsR r).length ec ea (some ⟨tg, 0, none⟩) (knownL (itemsR r) us).length tc (knownL (itemsR r) us) u4 Kpu4.out Zpu4 HEA.out QEu4.out hne (Rd.of_owns QTu4.out) HIN.out (itemsR_good r).gram (by have := knownL_len (itemsR r) us; have := HU.out.1; omega) HN12.out).mono ?_
      rintro e u5 ⟨rfl, hp, hf⟩
      have HPK : Hid (∃ base, w.heap.size ≤ base ∧ PkOk (itemsR r) (masterV r) base Bk eb (unitsR r).length ec (firstTo (roomB (itemsR r) (masterV r)) (sortedU (itemsR r) (knownL (itemsR r) us)) (knownL (itemsR r) us).length) u5) := by obtain ⟨bb, hb1, hb2⟩ := hp; exact ⟨bb, Nat.le_trans Bu4.out.size hb1, hb2⟩
      have Bu5 := hide (Bu4.out.trans (hf.below Bu4.out.size HB1.out))
      clear hp hf hHeld
      go_wp2_with fail
      refine hK.out _ _ (fun hn => absurd (by decide) hn) ?_
      clear hK K
      try simp only [Act.put, zz1, zz2, zz3, zz4, zz5, zz6]
      refine wpTo_done (by kernel_rfl) ?_ _
      refine NoPanic.normal ?_
      go_wp2_with fail
      go_meet
      case rel => exact ⟨rfl, unhide HPK, unhide Bu5⟩
     exact AllTo.nil
    exact AllTo.nil
  case rest =>
    obtain ⟨rfl, ⟨base, hbs, hp⟩, hb⟩ := hcut
    obtain ⟨oa, oc, rows, c3, hown, hrows⟩ := hp.out
    have HO := hide (hown.low hbs)
    have HRW := hide hrows
    have HB := hide hb
    clear hp hown hrows hb
    go_wp2
    go_ret
    exact ⟨oa, oc, rows, rfl, unhide HO, unhide HRW, unhide HB⟩

end Go.Proofs.YtphdeojiehigpaaGreatDoor

/- By way. -/
namespace Go.Proofs.YtphdeojiehigpaaGreatDoor
open Go Go.RowKit
set_option linter.unusedVariables false
set_option linter.unusedSimpArgs false

set_option maxRecDepth 100000 in
set_option maxHeartbeats 4000000 in
theorem packByNot_any (r : ReqV) (h : ReqH) (a : Option Addr) (n c : Nat) (us : List Int) (way : Int) (w : World) (hr : RdReq w r h) (hs : r.small) (hg : ErrT w) (hz : ¬ classI r = 0) :
    Calls Tryz.prog 105 #[reqVal r h, .slice a n c, .int .i64 way] w fun e w' => e = .returned (.slice none 0 0) ∧ Below w.heap.size w w' := by
  have HR := hide hr
  have HG := hide hg
  clear hr hg
  unfold reqVal
  go_enter Tryz.func105, Tryz.ntmps105
  go_wp2_with fail
  generalize hW : (w.alloc (.cells #[.int .i64 r.way, .int .i64 r.pal.wd, .int .i64 r.pal.dp, .int .i64 r.pal.ht, .int .i64 r.pal.gram, .int .i64 r.classes, .slice h.ap r.pairs.length h.cp, .slice h.at' r.types.length h.ct, .int .i64 r.master, .slice h.ai r.items.length h.ci] 40)) = W at *
  obtain ⟨BW, KaW, ZaW⟩ := en1 hW
  have Ga : w.heap.size ≤ w.heap.size := by omega
  clear hW
  refine (class_any r h _ (HR.out.mono BW.out) hs (HG.out.later BW.out)).mono ?_
  rintro e v1 ⟨rfl, hb⟩
  have Bv1 := hide (BW.out.trans (hb.mono BW.out.size))
  have Kav1 := hide (Blk.below hb ZaW KaW.out)
  have Zav1 := Nat.lt_of_lt_of_le ZaW hb.size
  clear hb
  clear BW KaW ZaW
  have hne : (classI r != 0) = true := by simp [hz]
  clear hz
  go_wp2
  go_ret
  exact ⟨rfl, unhide Bv1⟩
theorem way_in {r : ReqV} (hz : classI r = 0) : r.way = 1 ∨ r.way = 0 := by
  have h1 := (class_zero hz).1
  simp only [boundsB, Bool.and_eq_true, inB_iff] at h1
  omega
theorem packByWay_any (r : ReqV) (h : ReqH) (a : Option Addr) (n c : Nat) (us : List Int) (w : World) (hr : RdReq w r h) (hs : r.small) (hg : ErrT w) (hu : Rd w a n us) (hn : n ≤ 19) :
    Calls Tryz.prog 105 #[reqVal r h, .slice a n c, .int .i64 r.way] w fun e w' => ∃ oa oc rows, e = .returned (.slice oa (packR r us).length oc) ∧ Own2A w' w.heap.size oa oc rows ∧ rows.map RowV.l = packR r us ∧ Below w.heap.size w w' := by
  by_cases hz : classI r = 0
  · by_cases h1 : r.way = 1
    · rw [h1, show packR r us = nextR r us from if_pos h1]
      exact packByNext_any r h a n c us w hr hs hg hu (by omega)
    · rw [show r.way = 0 from (way_in hz).resolve_left h1, show packR r us = firstR r us from if_neg h1]
      exact packByFirst_any r h a n c us w hr hs hg hu hn
  · refine (packByNot_any r h a n c us r.way w hr hs hg hz).mono ?_
    rintro e w2 ⟨rfl, hb⟩
    rw [packR_not hz us]
    exact ⟨none, 0, [], rfl, .inl ⟨rfl, rfl, rfl⟩, rfl, hb⟩
set_option maxHeartbeats 2000000 in
theorem packWay_any (r : ReqV) (h : ReqH) (a : Option Addr) (n c : Nat) (us : List Int) (w : World) (hr : RdReq w r h) (hs : r.small) (hg : ErrT w) (hu : Rd w a n us) (hn : n ≤ 19) :
    Calls Tryz.prog 61 #[reqVal r h, .slice a n c] w fun e w' => ∃ oa oc rows, e = .returned (.slice oa (packR r us).length oc) ∧ Own2A w' w.heap.size oa oc rows ∧ rows.map RowV.l = packR r us ∧ Below w.heap.size w w' := by
  have HR := hide hr
  have HG := hide hg
  have HU := hide hu
  clear hr hg hu
  unfold reqVal
  go_enter Tryz.func61, Tryz.ntmps61
  go_wp2_with fail
  generalize hW : (w.alloc (.cells #[.int .i64 r.way, .int .i64 r.pal.wd, .int .i64 r.pal.dp, .int .i64 r.pal.ht, .int .i64 r.pal.gram, .int .i64 r.classes, .slice h.ap r.pairs.length h.cp, .slice h.at' r.types.length h.ct, .int .i64 r.master, .slice h.ai r.items.length h.ci] 40)) = W at *
  obtain ⟨BW, KaW, ZaW⟩ := en1 hW
  have Ga : w.heap.size ≤ w.heap.size := by omega
  clear hW
  refine (packByWay_any r h a n c us _ (HR.out.mono BW.out) hs (HG.out.later BW.out) (HU.out.mono BW.out) hn).mono ?_
  rintro e w2 ⟨oa, oc, rows, rfl, ho, hx, hb⟩
  have HO := hide (ho.low BW.out.size)
  have HX := hide hx
  have HB := hide (BW.out.trans (hb.mono BW.out.size))
  clear ho hx hb
  go_wp2
  go_ret
  exact ⟨oa, oc, rows, rfl, unhide HO, unhide HX, unhide HB⟩
end Go.Proofs.YtphdeojiehigpaaGreatDoor
