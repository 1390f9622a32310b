/- The program's Shelves. -/
import Derived.Test.YtcblpoeeembniaaShelfSt
import Derived.Test.YtcblpoeeembniaaDeepest
import Derived.Test.YtcblpoeeembniaaInvR
import Derived.Deep.DeepMust
import Derived.Deep.RegionHeld3
import Derived.Deep.DeepCutAuto
namespace Go.Proofs.Ytcblpoeeembniaa
open Go Go.RowKit
set_option linter.unusedVariables false
set_option linter.unusedSimpArgs false
def shelvesR (p : PalletV) (bs : List BoxV) : List ShelfV := if boxesB p bs = true then shelvesTo p bs (orderB bs) else []
theorem orderB_len (bs : List BoxV) : (orderB bs).length = bs.length := by
 have := (sortP_perm (bs.map (fun s => s.dp)) true (List.range bs.length)).length_eq
 simpa [orderB] using this
theorem orderB_lt (bs : List BoxV) (k : Nat) (h : k < bs.length) : (orderB bs).getD k 0 < bs.length := by
 have hl := orderB_len bs
 have hm : (orderB bs).getD k 0 ∈ orderB bs := by
  rw [List.getD_eq_getElem?_getD, List.getElem?_eq_getElem (by omega)]
  exact List.getElem_mem _
 have := (sortP_perm (bs.map (fun s => s.dp)) true (List.range bs.length)).mem_iff.1 hm
 simpa using this
theorem orderB_in {bs : List BoxV} {i : Nat} (h : i ∈ orderB bs) : i < bs.length := by
 have := (sortP_perm (bs.map (fun s => s.dp)) true (List.range bs.length)).mem_iff.1 h
 simpa using this
theorem boxesB_in {p : PalletV} {bs : List BoxV} (h : boxesB p bs = true) {i : Nat} (hi : i < bs.length) : boxB p (bs.getD i default) = true := by
 simp only [boxesB, Bool.and_eq_true, List.all_eq_true] at h
 exact h.2 _ (getD_mem hi)
theorem boxesB_pal {p : PalletV} {bs : List BoxV} (h : boxesB p bs = true) : palletB p.wd p.dp p.ht p.gram = true := by
 simp only [boxesB, Bool.and_eq_true] at h
 exact h.1
theorem cellsN_at' (F : List Nat) (i : Nat) (h : i < F.length) : (cellsN F)[i]? = some (.int .i64 ((F.getD i 0 : Nat) : Int)) := by
 simp [cellsN, h]
/-- What is known of the shelves so far. -/
theorem to_known {p : PalletV} {bs : List BoxV} (h : boxesB p bs = true) (k : Nat) (hk : k ≤ bs.length) :
 (∀ s ∈ shelvesTo p bs ((orderB bs).take k), ShelfOk p s) ∧ totShelf (shelvesTo p bs ((orderB bs).take k)) = k ∧ (shelvesTo p bs ((orderB bs).take k)).length ≤ k := by
 have h1 := shelves_size p bs ((orderB bs).take k) []
 have h2 : ((orderB bs).take k).length = k := by rw [List.length_take, orderB_len]; omega
 rw [h2] at h1
 refine ⟨shelvesTo_ok _ _ (fun s hs => by cases hs) (fun i hi => boxesB_in h (orderB_in (List.mem_of_mem_take hi))), ?_, ?_⟩
 · have := h1.1
   simpa [shelvesTo, totShelf] using this
 · simpa [shelvesTo] using h1.2
theorem Try.infoShelf' : (Try.prog.info? 51).map (fun i => (i.zero, i.size, i.bytes)) = some (some (.agg #[.slice none 0 0, .int .i64 0, .int .i64 0, .int .i64 0, .int .i64 0]), 5, 56) := by kernel_rfl
set_option maxRecDepth 100000 in
set_option maxHeartbeats 8000000 in
theorem shelves_any (p : PalletV) (a : Option Addr) (n c : Nat) (bs : List BoxV) (w : World) (hr : RdR BoxV.cells 4 w a n bs) (hn : n ≤ 1048576) :
 Calls Try.prog 23 #[.agg #[.int .i64 p.wd, .int .i64 p.dp, .int .i64 p.ht, .int .i64 p.gram], .slice a n c] w fun e w' => ∃ (g cap : Nat) (xs : List ShelfW), e = .returned (.slice (some ⟨g, 0, none⟩) xs.length cap) ∧ OwnShelf w' w.heap.size g cap xs ∧ xs.map ShelfW.car = shelvesR p bs ∧ Below w.heap.size w w' := by
 obtain ⟨i0, hi, hz0, hz1, hz2⟩ := info_parts Try.infoShelf'
 have hbl := hr.1
 have HR := hide hr
 clear hr
 go_enter Try.func23, Try.ntmps23
 go_wp2_with fail
 have hbw : Below w.heap.size w ((w.alloc (.cells #[.int .i64 p.wd, .int .i64 p.dp, .int .i64 p.ht, .int .i64 p.gram] 27)).alloc (.cells #[] 51)) := ((Below.refl _ _).alloc (Nat.le_refl _) _).alloc (by simp) _
 have KP : Hid (Blk ((w.alloc (.cells #[.int .i64 p.wd, .int .i64 p.dp, .int .i64 p.ht, .int .i64 p.gram] 27)).alloc (.cells #[] 51)) w.heap.size [.int .i64 p.wd, .int .i64 p.dp, .int .i64 p.ht, .int .i64 p.gram]) := (Blk.allocAt [.int .i64 p.wd, .int .i64 p.dp, .int .i64 p.ht, .int .i64 p.gram] rfl).allocOld (by simp) _
 have hszw : ((w.alloc (.cells #[.int .i64 p.wd, .int .i64 p.dp, .int .i64 p.ht, .int .i64 p.gram] 27)).alloc (.cells #[] 51)).heap.size = w.heap.size + 1 + 1 := by simp
 have OL : Hid (OwnShelf ((w.alloc (.cells #[.int .i64 p.wd, .int .i64 p.dp, .int .i64 p.ht, .int .i64 p.gram] 27)).alloc (.cells #[] 51)) (w.heap.size + 1) (w.heap.size + 1) 0 []) := ⟨by have h := own_lit0' (e := 51) (size := 5) (w.alloc (.cells #[.int .i64 p.wd, .int .i64 p.dp, .int .i64 p.ht, .int .i64 p.gram] 27)) (B := w.heap.size + 1) (by simp); rw [show (w.alloc (.cells #[.int .i64 p.wd, .int .i64 p.dp, .int .i64 p.ht, .int .i64 p.gram] 27)).heap.size = w.heap.size + 1 by simp] at h; exact h, Rws.nil⟩
 generalize ((w.alloc (.cells #[.int .i64 p.wd, .int .i64 p.dp, .int .i64 p.ht, .int .i64 p.gram] 27)).alloc (.cells #[] 51)) = W at *
 have HRW : Hid (RdR BoxV.cells 4 W a n bs) := HR.out.mono (by omega) BoxV.len hbw
 have HBW := hide hbw
 have HLO : Hid (∀ x, a = some x → 0 < n → x.block < w.heap.size) := fun x hx h0 => by
  obtain ⟨b, off, e, hc⟩ := HR.out.2 0 h0
  rw [hx] at e
  cases e
  have h1 := hc 0 (by omega)
  rw [List.getElem?_eq_getElem (by rw [BoxV.len]; omega)] at h1
  exact World.block_lt_of_cell? w _ h1
 clear hbw HR
 refine (boxesOk_any p a n c bs W HRW.out hn).mono ?_
 rintro e w2 ⟨rfl, hb2⟩
 have HB2 := hide hb2
 have OL2 := hide (OL.out.later hb2)
 clear hb2 OL
 cases hbx : boxesB p bs
 case false =>
  have HE : Hid (shelvesR p bs = []) := by rw [Hid, shelvesR, hbx]; simp
  go_wp2_with fail
  go_ret
  exact ⟨w.heap.size + 1, 0, [], rfl, OL2.out.low (by omega), HE.out.symm, HBW.out.trans (HB2.out.mono HBW.out.size)⟩
 have HBX := hide hbx
 have HPAL := hide (boxesB_pal hbx)
 clear hbx
 go_wp2_with fail
 refine (deepestFirst_any a n c bs w2 (HRW.out.mono (by omega) BoxV.len HB2.out) hn).mono ?_
 rintro e w3 ⟨gO, rfl, ho3, hb3⟩
 have hgO := own_base ho3
 have hsz2 := HB2.out.size
 have HS0 : Hid (Sv w3 (w.heap.size + 1) gO n (orderB bs) (w.heap.size + 1) 0 []) := ⟨OL2.out.later hb3, by omega, fun i hi => absurd hi (Nat.not_lt_zero _), fun i hi => (ho3.cellAt i (by omega)).trans (cellsN_at' _ i (by rw [orderB_len, hbl]; exact hi)), (ho3.lt gO rfl).2⟩
 have HB3 : Hid (Below (w.heap.size + 1) W w3) := ((HB2.out.mono (show (w.heap.size + 1) ≤ W.heap.size by omega))).trans (hb3.mono (show (w.heap.size + 1) ≤ w2.heap.size by omega))
 clear ho3 hb3 OL2 HB2 hgO hsz2
 go_wp2
 go_loopw [5, 6, 18] (fun s l i wr => ∃ (k g cap : Nat) (xs : List ShelfW), k ≤ n ∧ i = .int .i64 k ∧ s = .slice (some ⟨g, 0, none⟩) xs.length cap ∧ l = lastP g xs.length ∧ Sv wr (w.heap.size + 1) gO n (orderB bs) g cap xs ∧ xs.map ShelfW.car = shelvesTo p bs ((orderB bs).take k) ∧ Below (w.heap.size + 1) W wr) (fun _ _ i _ => n - (intOf i).toNat)
 case atStart => exact ⟨0, w.heap.size + 1, 0, [], Nat.zero_le _, rfl, rfl, rfl, unhide HS0, rfl, unhide HB3⟩
 case round =>
  clear HS0 HB3
  obtain ⟨k, g, cap, xs, hk, rfl, rfl, rfl, hsv, hmap, hbel⟩ := hrel
  have HSV := hide hsv
  have HB := hide hbel
  have HM := hide hmap
  by_cases hlk : k < n
  case neg =>
   have HE : Hid (xs.map ShelfW.car = shelvesR p bs) := by
    rw [Hid, shelvesR, if_pos HBX.out, unhide HM, List.take_of_length_le (by rw [orderB_len]; omega)]
   clear hsv hmap hbel
   go_wp2
   go_ret
   exact ⟨g, cap, xs, rfl, HSV.out.own.low (by omega), unhide HE, HBW.out.trans (HB.out.mono (by omega))⟩
  case pos =>
   obtain ⟨hok, htot, hlen⟩ := to_known HBX.out k (by omega)
   rw [← hmap] at hok htot hlen
   have HOK := hide hok
   have HTOT := hide htot
   have hxl : xs.length ≤ k := by simpa using hlen
   have hpl := orderB_lt bs k (by omega)
   have HBB := hide (boxesB_in HBX.out hpl)
   have HST := hide (shelvesTo_step p bs (orderB bs) k (by rw [orderB_len]; omega))
   rw [← unhide HM] at HST
   have cO := hsv.ord k hlk
   generalize (orderB bs).getD k 0 = pl at cO hpl HBB HST
   obtain ⟨b, off, ha, hc⟩ := HRW.out.2 pl (by omega)
   have hblt := HLO.out _ ha (by omega)
   dsimp only at hblt
   subst ha
   have hBX := hide (fun (x : World) (hx : Below (w.heap.size + 1) W x) => (⟨(hx.cell (p := ⟨b, off + pl * 4, none⟩) (show b < _ by omega)).trans (hc 0 (by omega)), (hx.cell (p := ⟨b, off + pl * 4 + 1, none⟩) (show b < _ by omega)).trans (hc 1 (by omega)), (hx.cell (p := ⟨b, off + pl * 4 + 2, none⟩) (show b < _ by omega)).trans (hc 2 (by omega)), (hx.cell (p := ⟨b, off + pl * 4 + 3, none⟩) (show b < _ by omega)).trans (hc 3 (by omega))⟩ :
    x.cell? ⟨b, off + pl * 4, none⟩ = some (.int .i64 (bs.getD pl default).wd) ∧ x.cell? ⟨b, off + pl * 4 + 1, none⟩ = some (.int .i64 (bs.getD pl default).dp) ∧ x.cell? ⟨b, off + pl * 4 + 2, none⟩ = some (.int .i64 (bs.getD pl default).ht) ∧ x.cell? ⟨b, off + pl * 4 + 3, none⟩ = some (.int .i64 (bs.getD pl default).gram)))
   have HPC := hide (fun (x : World) (hx : Below (w.heap.size + 1) W x) => (⟨(hx.cell (p := ⟨w.heap.size, 0, none⟩) (show w.heap.size < _ by omega)).trans (KP.out 0 (by simp)).1, (hx.cell (p := ⟨w.heap.size, 1, none⟩) (show w.heap.size < _ by omega)).trans (KP.out 1 (by simp)).1, (hx.cell (p := ⟨w.heap.size, 2, none⟩) (show w.heap.size < _ by omega)).trans (KP.out 2 (by simp)).1, (hx.cell (p := ⟨w.heap.size, 3, none⟩) (show w.heap.size < _ by omega)).trans (KP.out 3 (by simp)).1⟩ :
    x.cell? ⟨w.heap.size, 0, none⟩ = some (.int .i64 p.wd) ∧ x.cell? ⟨w.heap.size, 1, none⟩ = some (.int .i64 p.dp) ∧ x.cell? ⟨w.heap.size, 2, none⟩ = some (.int .i64 p.ht) ∧ x.cell? ⟨w.heap.size, 3, none⟩ = some (.int .i64 p.gram)))
   have HSR := hide (fun (zs : List ShelfV) (s : ShelfV) (h : roomS p s (bs.getD pl default) = true) => stepS_room (p := p) (bs := bs) (zs := zs) (s := s) (i := pl) h)
   have HSN := hide (fun (zs : List ShelfV) (s : ShelfV) (h : roomS p s (bs.getD pl default) = false) => stepS_new (p := p) (bs := bs) (zs := zs) (s := s) (i := pl) h)
   have HS1 := hide (stepS_first (p := p) (bs := bs) (i := pl))
   generalize bs.getD pl default = q at hBX HBB HSR HSN HS1
   have hsz : w.heap.size + 1 ≤ wr.heap.size := by have := hbel.size; omega
   clear hsv hmap hbel hc hok htot hlen
   rcases List.eq_nil_or_concat xs with hxs | ⟨ys, r, hxs⟩
   · have e0 : lastP g xs.length = .pointer none := by rw [hxs]; rfl
     rw [e0]
     have HNEW : Hid (stepS p bs (xs.map ShelfW.car) pl = xs.map ShelfW.car ++ [ShelfV.zero.add (pl : Int) q]) := by rw [Hid, hxs]; exact unhide HS1
     clear hxs
     obtain ⟨d0, d1, d2, d3⟩ := hBX.out wr HB.out
     go_upto_region 8 with fail
     go_cut [33] (fun v wc => v = .bool true ∧ Below wr.heap.size wr wc)
     case first =>
      go_region
      all_goals
       go_wp2
       go_meet
       case rel => exact ⟨rfl, (Below.refl _ _).drew⟩
     case rest =>
      clear d0 d1 d2 d3
      obtain ⟨rfl, hb9⟩ := hcut
      have hz9 := hb9.size
      have HSX := hide (HSV.out.later hb9)
      have HBX8 := hide (HB.out.trans (hb9.mono hsz))
      obtain ⟨d0, d1, d2, d3⟩ := hBX.out wc HBX8.out
      clear hb9
      have hba : Below wc.heap.size wc (wc.alloc (.cells #[.slice none 0 0, .int .i64 0, .int .i64 0, .int .i64 0, .int .i64 0] 51)) := (Below.refl _ _).alloc (Nat.le_refl _) _
      have HSL := hide (HSX.out.later hba)
      have hsx := HBX8.out.size
      have HBL : Hid (Below (w.heap.size + 1) W (wc.alloc (.cells #[.slice none 0 0, .int .i64 0, .int .i64 0, .int .i64 0, .int .i64 0] 51))) := HBX8.out.trans (hba.mono (by omega))
      have HNW : Hid (∀ j u, [Value.slice none 0 0, .int .i64 0, .int .i64 0, .int .i64 0, .int .i64 0][j]? = some u → (wc.alloc (.cells #[.slice none 0 0, .int .i64 0, .int .i64 0, .int .i64 0, .int .i64 0] 51)).cell? ((⟨wc.heap.size, 0, none⟩ : Addr).add j) = some u) := Blk.news (Blk.allocAt [.slice none 0 0, .int .i64 0, .int .i64 0, .int .i64 0, .int .i64 0] rfl)
      have HOL := hide HSL.out.own.out
      clear hba
      go_wp2_with (first
       | (at_builtin; refine wpList_append_lies _ rfl _ _ 36 rfl (w.heap.size + 1) 51 i0 (.agg #[.slice none 0 0, .int .i64 0, .int .i64 0, .int .i64 0, .int .i64 0]) 5 56 Try.underlying36 hi hz0 hz1 hz2 rfl (by omega) (.slice (some ⟨g, 0, none⟩) xs.length cap) xs.length (cellsShelf xs) rfl HOL.out ⟨wc.heap.size, 0, none⟩ 1 1 [.slice none 0 0, .int .i64 0, .int .i64 0, .int .i64 0, .int .i64 0] rfl rfl HNW.out (by simp [Value.oneCell']) (by omega) (by unfold maxLen; omega) (by omega) (by simp; omega) (wc.heap.size + 1) (by simp) ?_; intro g3 cap3 w6 ho6 hg6 hat6 hlt6; generalize hWL : (wc.alloc (.cells #[.slice none 0 0, .int .i64 0, .int .i64 0, .int .i64 0, .int .i64 0] 51)) = WL at *; have h8 := HSL.out.push hg6 (hat6.elim (fun e => .inl (by simpa [Value.ownBlock] using e)) (fun e => .inr (by rw [e, ← hWL]; simp))); have hBG6 := own_base HSL.out.own.out; have hzL := HBL.out.size; have hb6 : Below (w.heap.size + 1) WL w6 := (Below.refl _ _).grown hg6 (by omega) (fun b hb => (by simp [Value.ownBlock] at hb; omega)); have HB6 : Hid (Below (w.heap.size + 1) W w6) := HBL.out.trans hb6; have HO6 := hide ho6; have H86 := hide h8; have hBw : (w.heap.size + 1) ≤ w6.heap.size := Nat.le_trans hzL hb6.size |> Nat.le_trans (by omega); obtain ⟨b0, b1, b2, b3⟩ := hBX.out w6 HB6.out; clear ho6 hg6 hat6 h8 hb6 hWL HSL HBL HNW HOL d0 d1 d2 d3 hsx hzL)
       | fail)
      have hBg := own_base HO6.out
      have hcx := cellsShelf_len xs
      have c0 : w6.cell? ⟨g3, xs.length * 5, none⟩ = some (.slice none 0 0) := (HO6.out.cellAt (xs.length * 5 + 0) (by omega)).trans (by rw [List.getElem?_append_right (by omega), hcx, Nat.add_sub_cancel_left]; rfl)
      have c1 : w6.cell? ⟨g3, xs.length * 5 + 1, none⟩ = some (.int .i64 0) := (HO6.out.cellAt (xs.length * 5 + 1) (by omega)).trans (by rw [List.getElem?_append_right (by omega), hcx, Nat.add_sub_cancel_left]; rfl)
      have c2 : w6.cell? ⟨g3, xs.length * 5 + 2, none⟩ = some (.int .i64 0) := (HO6.out.cellAt (xs.length * 5 + 2) (by omega)).trans (by rw [List.getElem?_append_right (by omega), hcx, Nat.add_sub_cancel_left]; rfl)
      have c3 : w6.cell? ⟨g3, xs.length * 5 + 3, none⟩ = some (.int .i64 0) := (HO6.out.cellAt (xs.length * 5 + 3) (by omega)).trans (by rw [List.getElem?_append_right (by omega), hcx, Nat.add_sub_cancel_left]; rfl)
      have c4 : w6.cell? ⟨g3, xs.length * 5 + 4, none⟩ = some (.int .i64 0) := (HO6.out.cellAt (xs.length * 5 + 4) (by omega)).trans (by rw [List.getElem?_append_right (by omega), hcx, Nat.add_sub_cancel_left]; rfl)
      have hfz : ∀ j, w6.frozen? ⟨g3, xs.length * 5 + j, none⟩ = false := fun j => HO6.out.frozenAt _
      have hlv : (Value.slice none 0 0).ownBlock ≠ some g3 := by simp [Value.ownBlock]
      have hpb := box_in HBB.out
      have hso : ShelfOk p ShelfV.zero := ⟨by show (0 : Int) ≤ 0; omega, by show (0 : Int) ≤ p.wd; omega, by show (0 : Int) ≤ 0; omega, by show (0 : Int) ≤ p.gram; omega⟩
      have hrm : roomS p ShelfV.zero q = true := room_iff.2 ⟨by show 0 + q.wd ≤ p.wd; omega, by show 0 + q.gram ≤ p.gram; omega⟩
      refine (put_any p ShelfV.zero q (w.heap.size + 1) g3 (xs.length * 5) (0) (pl : Int) (.slice none 0 0) w6 c0 c1 c2 c3 c4 hfz (.inl ⟨rfl, rfl⟩) ⟨rfl, .inl ⟨rfl, rfl⟩⟩ hBw hBg hlv (by omega) hso HBB.out hrm HPAL.out).mono ?_
      rintro e w7 ⟨rfl, hpp⟩
      obtain ⟨n1, n2, n3, n4, n5⟩ := unhide H86
      obtain ⟨R, hRc, hsv7, hb7⟩ := Sv.put n1 n2 n3 n4 (by simp [Value.ownBlock]) HO6.out rfl n5 (Aside.none _ _ _ _) rfl rfl hpp
      have HSV7 := hide hsv7
      have HB7 := hide (HB6.out.trans hb7)
      have HM7 : Hid ((xs ++ [R]).map ShelfW.car = shelvesTo p bs ((orderB bs).take (k + 1))) := by rw [Hid, unhide HST, unhide HNEW, List.map_append]; simp [hRc]
      clear hpp hsv7 hb7 n1 n2 n3 n4 n5 c0 c1 c2 c3 c4 hfz b0 b1 b2 b3
      go_wp2_with fail
      go_roundw
      case rel => exact ⟨k + 1, g3, cap3, xs ++ [R], by omega, by go_num, by simp, by rw [lastP_snoc], unhide HSV7, unhide HM7, unhide HB7⟩
      case measure => simp [intOf]; omega
   · have hxs2 : xs = ys ++ [r] := by rw [hxs]; simp
     clear hxs
     have e0 : lastP g xs.length = .pointer (some ⟨g, ys.length * 5, none⟩) := by rw [hxs2]; exact lastP_snoc g ys r
     rw [e0]
     have hyl : xs.length = ys.length + 1 := by rw [hxs2]; simp
     have HRO : Hid (ShelfOk p r.car) := HOK.out _ (by rw [hxs2]; simp)
     have hrl : r.l.length ≤ k := by have h1 := totShelf_le (xs.map ShelfW.car) ys.length (by simp; omega); rw [unhide HTOT, ShelfW.getD_car _ _ (by omega), hxs2, getD_snoc_eq] at h1; exact h1
     obtain ⟨d0, d1, d2, d3⟩ := hBX.out wr HB.out
     obtain ⟨x0, x1, x2, x3⟩ := HPC.out wr HB.out
     have c1 : wr.cell? ⟨g, ys.length * 5 + 1, none⟩ = some (.int .i64 r.car.wd) := by have := (HSV.out.own.cell ys.length (by omega) 1 (by omega)).1; rw [hxs2, getD_snoc_eq] at this; exact this
     have c4 : wr.cell? ⟨g, ys.length * 5 + 4, none⟩ = some (.int .i64 r.car.gram) := by have := (HSV.out.own.cell ys.length (by omega) 4 (by omega)).1; rw [hxs2, getD_snoc_eq] at this; exact this
     have HC1 := hide c1
     have HC4 := hide c4
     have HXS := hide hxs2
     have HYL := hide hyl
     clear c1 c4 hxs2 hyl
     cases hrm : roomS p r.car q
     case true =>
      go_upto_region 8 with fail
      go_cut [33] (fun v wc => v = .bool false ∧ Below wr.heap.size wr wc)
      case first =>
       go_region_with ((go_at_call 45; go_must (refine (hasRoom_any p r.car q g (ys.length * 5) _ (by exact unhide HC1) (by exact unhide HC4) HRO.out HBB.out HPAL.out).mono ?_; rintro e w2 ⟨rfl, hb2⟩; rw [hrm])))
       all_goals
        try simp only [Act.put, zz1, zz2, zz3, zz4, zz5, zz6]
        go_wp2
        try simp only [Act.put, zz1, zz2, zz3, zz4, zz5, zz6]
        go_meet
        case rel => exact ⟨rfl, (Below.refl _ _).drew.trans hb2⟩
      case rest =>
       clear d0 d1 d2 d3 x0 x1 x2 x3 HC1 HC4
       obtain ⟨rfl, hb9⟩ := hcut
       have hz9 := hb9.size
       have HSX := hide (HSV.out.later hb9)
       have HBX8 := hide (HB.out.trans (hb9.mono hsz))
       obtain ⟨d0, d1, d2, d3⟩ := hBX.out wc HBX8.out
       clear hb9
       rw [unhide HXS] at HSX HST
       obtain ⟨l1, l2, l3, l4, l5, l6⟩ := HSX.out.last
       have hBg := own_base l1
       have hcx := cellsShelf_len ys
       have c0 : wc.cell? ⟨g, ys.length * 5, none⟩ = some (.slice (some ⟨r.g, 0, none⟩) r.l.length r.cap) := (l1.cellAt (ys.length * 5 + 0) (by omega)).trans (by rw [List.getElem?_append_right (by omega), hcx, Nat.add_sub_cancel_left]; rfl)
       have c1 : wc.cell? ⟨g, ys.length * 5 + 1, none⟩ = some (.int .i64 r.wd) := (l1.cellAt (ys.length * 5 + 1) (by omega)).trans (by rw [List.getElem?_append_right (by omega), hcx, Nat.add_sub_cancel_left]; rfl)
       have c2 : wc.cell? ⟨g, ys.length * 5 + 2, none⟩ = some (.int .i64 r.dp) := (l1.cellAt (ys.length * 5 + 2) (by omega)).trans (by rw [List.getElem?_append_right (by omega), hcx, Nat.add_sub_cancel_left]; rfl)
       have c3 : wc.cell? ⟨g, ys.length * 5 + 3, none⟩ = some (.int .i64 r.ht) := (l1.cellAt (ys.length * 5 + 3) (by omega)).trans (by rw [List.getElem?_append_right (by omega), hcx, Nat.add_sub_cancel_left]; rfl)
       have c4 : wc.cell? ⟨g, ys.length * 5 + 4, none⟩ = some (.int .i64 r.gram) := (l1.cellAt (ys.length * 5 + 4) (by omega)).trans (by rw [List.getElem?_append_right (by omega), hcx, Nat.add_sub_cancel_left]; rfl)
       have hfz : ∀ j, wc.frozen? ⟨g, ys.length * 5 + j, none⟩ = false := fun j => l1.frozenAt _
       have hlv : (Value.slice (some ⟨r.g, 0, none⟩) r.l.length r.cap).ownBlock ≠ some g := by simpa [Value.ownBlock] using l5
       have hlo : (Value.slice (some ⟨r.g, 0, none⟩) r.l.length r.cap).ownBlock ≠ some gO := by simpa [Value.ownBlock] using l6
       have hBw : (w.heap.size + 1) ≤ wc.heap.size := by have := HBX8.out.size; omega
       have HL := hide (And.intro l1 (And.intro l2 l3))
       have HLO4 := hide l4
       have n1 := HSX.out.ne
       have n4 := HSX.out.lt
       have HN2 := hide (show ∀ j, j < ys.length → (ys.getD j default).g ≠ gO from fun j hj => by have := HSX.out.nes j (by simp; omega); rwa [getD_snoc_lt hj] at this)
       have HN3 := hide HSX.out.ord
       have hso := unhide HRO
       clear l1 l2 l3 l4 l5 l6
       go_wp2_with fail
       refine (put_any p r.car q (w.heap.size + 1) g (ys.length * 5) (r.l.length) (pl : Int) (.slice (some ⟨r.g, 0, none⟩) r.l.length r.cap) wc c0 c1 c2 c3 c4 hfz (.inr ⟨r.g, r.cap, rfl⟩) HLO4.out hBw hBg hlv (by omega) hso HBB.out hrm HPAL.out).mono ?_
       rintro e w7 ⟨rfl, hpp⟩
       obtain ⟨l1, l2, l3⟩ := unhide HL
       obtain ⟨R, hRc, hsv7, hb7⟩ := Sv.put n1 HN2.out HN3.out n4 hlo l1 rfl l2 l3 rfl rfl hpp
       have HSV7 := hide hsv7
       have HB7 := hide (HBX8.out.trans hb7)
       have HM7 : Hid ((ys ++ [R]).map ShelfW.car = shelvesTo p bs ((orderB bs).take (k + 1))) := by rw [Hid, unhide HST, List.map_append, List.map_append, List.map_cons, List.map_nil, List.map_cons, List.map_nil, HSR.out _ _ hrm, hRc]
       clear hpp hsv7 hb7 n1 n4 c0 c1 c2 c3 c4 hfz l1 l2 l3
       go_wp2_with fail
       go_roundw
       case rel => exact ⟨k + 1, g, cap, ys ++ [R], by omega, by go_num, by rw [unhide HYL]; simp, by rw [lastP_snoc], unhide HSV7, unhide HM7, unhide HB7⟩
       case measure => simp [intOf]; omega
     case false =>
      go_upto_region 8 with fail
      go_cut [33] (fun v wc => v = .bool true ∧ Below wr.heap.size wr wc)
      case first =>
       go_region_with ((go_at_call 45; go_must (refine (hasRoom_any p r.car q g (ys.length * 5) _ (by exact unhide HC1) (by exact unhide HC4) HRO.out HBB.out HPAL.out).mono ?_; rintro e w2 ⟨rfl, hb2⟩; rw [hrm])))
       all_goals
        try simp only [Act.put, zz1, zz2, zz3, zz4, zz5, zz6]
        go_wp2
        try simp only [Act.put, zz1, zz2, zz3, zz4, zz5, zz6]
        go_meet
        case rel => exact ⟨rfl, (Below.refl _ _).drew.trans hb2⟩
      case rest =>
       clear d0 d1 d2 d3 x0 x1 x2 x3 HC1 HC4
       obtain ⟨rfl, hb9⟩ := hcut
       have hz9 := hb9.size
       have HSX := hide (HSV.out.later hb9)
       have HBX8 := hide (HB.out.trans (hb9.mono hsz))
       obtain ⟨d0, d1, d2, d3⟩ := hBX.out wc HBX8.out
       clear hb9
       have HNEW : Hid (stepS p bs (xs.map ShelfW.car) pl = xs.map ShelfW.car ++ [ShelfV.zero.add (pl : Int) q]) := by rw [Hid, unhide HXS, List.map_append, List.map_cons, List.map_nil]; exact HSN.out _ _ hrm
       clear hrm
       have hba : Below wc.heap.size wc (wc.alloc (.cells #[.slice none 0 0, .int .i64 0, .int .i64 0, .int .i64 0, .int .i64 0] 51)) := (Below.refl _ _).alloc (Nat.le_refl _) _
       have HSL := hide (HSX.out.later hba)
       have hsx := HBX8.out.size
       have HBL : Hid (Below (w.heap.size + 1) W (wc.alloc (.cells #[.slice none 0 0, .int .i64 0, .int .i64 0, .int .i64 0, .int .i64 0] 51))) := HBX8.out.trans (hba.mono (by omega))
       have HNW : Hid (∀ j u, [Value.slice none 0 0, .int .i64 0, .int .i64 0, .int .i64 0, .int .i64 0][j]? = some u → (wc.alloc (.cells #[.slice none 0 0, .int .i64 0, .int .i64 0, .int .i64 0, .int .i64 0] 51)).cell? ((⟨wc.heap.size, 0, none⟩ : Addr).add j) = some u) := Blk.news (Blk.allocAt [.slice none 0 0, .int .i64 0, .int .i64 0, .int .i64 0, .int .i64 0] rfl)
       have HOL := hide HSL.out.own.out
       clear hba
       go_wp2_with (first
        | (at_builtin; refine wpList_append_lies _ rfl _ _ 36 rfl (w.heap.size + 1) 51 i0 (.agg #[.slice none 0 0, .int .i64 0, .int .i64 0, .int .i64 0, .int .i64 0]) 5 56 Try.underlying36 hi hz0 hz1 hz2 rfl (by omega) (.slice (some ⟨g, 0, none⟩) xs.length cap) xs.length (cellsShelf xs) rfl HOL.out ⟨wc.heap.size, 0, none⟩ 1 1 [.slice none 0 0, .int .i64 0, .int .i64 0, .int .i64 0, .int .i64 0] rfl rfl HNW.out (by simp [Value.oneCell']) (by omega) (by unfold maxLen; omega) (by omega) (by simp; omega) (wc.heap.size + 1) (by simp) ?_; intro g3 cap3 w6 ho6 hg6 hat6 hlt6; generalize hWL : (wc.alloc (.cells #[.slice none 0 0, .int .i64 0, .int .i64 0, .int .i64 0, .int .i64 0] 51)) = WL at *; have h8 := HSL.out.push hg6 (hat6.elim (fun e => .inl (by simpa [Value.ownBlock] using e)) (fun e => .inr (by rw [e, ← hWL]; simp))); have hBG6 := own_base HSL.out.own.out; have hzL := HBL.out.size; have hb6 : Below (w.heap.size + 1) WL w6 := (Below.refl _ _).grown hg6 (by omega) (fun b hb => (by simp [Value.ownBlock] at hb; omega)); have HB6 : Hid (Below (w.heap.size + 1) W w6) := HBL.out.trans hb6; have HO6 := hide ho6; have H86 := hide h8; have hBw : (w.heap.size + 1) ≤ w6.heap.size := Nat.le_trans hzL hb6.size |> Nat.le_trans (by omega); obtain ⟨b0, b1, b2, b3⟩ := hBX.out w6 HB6.out; clear ho6 hg6 hat6 h8 hb6 hWL HSL HBL HNW HOL d0 d1 d2 d3 hsx hzL)
        | fail)
       have hBg := own_base HO6.out
       have hcx := cellsShelf_len xs
       have c0 : w6.cell? ⟨g3, xs.length * 5, none⟩ = some (.slice none 0 0) := (HO6.out.cellAt (xs.length * 5 + 0) (by omega)).trans (by rw [List.getElem?_append_right (by omega), hcx, Nat.add_sub_cancel_left]; rfl)
       have c1 : w6.cell? ⟨g3, xs.length * 5 + 1, none⟩ = some (.int .i64 0) := (HO6.out.cellAt (xs.length * 5 + 1) (by omega)).trans (by rw [List.getElem?_append_right (by omega), hcx, Nat.add_sub_cancel_left]; rfl)
       have c2 : w6.cell? ⟨g3, xs.length * 5 + 2, none⟩ = some (.int .i64 0) := (HO6.out.cellAt (xs.length * 5 + 2) (by omega)).trans (by rw [List.getElem?_append_right (by omega), hcx, Nat.add_sub_cancel_left]; rfl)
       have c3 : w6.cell? ⟨g3, xs.length * 5 + 3, none⟩ = some (.int .i64 0) := (HO6.out.cellAt (xs.length * 5 + 3) (by omega)).trans (by rw [List.getElem?_append_right (by omega), hcx, Nat.add_sub_cancel_left]; rfl)
       have c4 : w6.cell? ⟨g3, xs.length * 5 + 4, none⟩ = some (.int .i64 0) := (HO6.out.cellAt (xs.length * 5 + 4) (by omega)).trans (by rw [List.getElem?_append_right (by omega), hcx, Nat.add_sub_cancel_left]; rfl)
       have hfz : ∀ j, w6.frozen? ⟨g3, xs.length * 5 + j, none⟩ = false := fun j => HO6.out.frozenAt _
       have hlv : (Value.slice none 0 0).ownBlock ≠ some g3 := by simp [Value.ownBlock]
       have hpb := box_in HBB.out
       have hso : ShelfOk p ShelfV.zero := ⟨by show (0 : Int) ≤ 0; omega, by show (0 : Int) ≤ p.wd; omega, by show (0 : Int) ≤ 0; omega, by show (0 : Int) ≤ p.gram; omega⟩
       have hrm : roomS p ShelfV.zero q = true := room_iff.2 ⟨by show 0 + q.wd ≤ p.wd; omega, by show 0 + q.gram ≤ p.gram; omega⟩
       refine (put_any p ShelfV.zero q (w.heap.size + 1) g3 (xs.length * 5) (0) (pl : Int) (.slice none 0 0) w6 c0 c1 c2 c3 c4 hfz (.inl ⟨rfl, rfl⟩) ⟨rfl, .inl ⟨rfl, rfl⟩⟩ hBw hBg hlv (by omega) hso HBB.out hrm HPAL.out).mono ?_
       rintro e w7 ⟨rfl, hpp⟩
       obtain ⟨n1, n2, n3, n4, n5⟩ := unhide H86
       obtain ⟨R, hRc, hsv7, hb7⟩ := Sv.put n1 n2 n3 n4 (by simp [Value.ownBlock]) HO6.out rfl n5 (Aside.none _ _ _ _) rfl rfl hpp
       have HSV7 := hide hsv7
       have HB7 := hide (HB6.out.trans hb7)
       have HM7 : Hid ((xs ++ [R]).map ShelfW.car = shelvesTo p bs ((orderB bs).take (k + 1))) := by rw [Hid, unhide HST, unhide HNEW, List.map_append]; simp [hRc]
       clear hpp hsv7 hb7 n1 n2 n3 n4 n5 c0 c1 c2 c3 c4 hfz b0 b1 b2 b3
       go_wp2_with fail
       go_roundw
       case rel => exact ⟨k + 1, g3, cap3, xs ++ [R], by omega, by go_num, by simp, by rw [lastP_snoc], unhide HSV7, unhide HM7, unhide HB7⟩
       case measure => simp [intOf]; omega
end Go.Proofs.Ytcblpoeeembniaa
