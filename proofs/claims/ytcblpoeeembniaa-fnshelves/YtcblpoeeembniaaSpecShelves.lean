/- The model's Shelves. -/
import Derived.Test.YtcblpoeeembniaaShelvesImpl
import Derived.Test.YtcblpoeeembniaaShelfSt2
import Derived.Test.YtcblpoeeembniaaShelfAdd
import Derived.Test.YtcblpoeeembniaaMergeWalk
import Derived.Test.YtcblpoeeembniaaInvR
import Derived.Deep.DeepMust
import Derived.Deep.DeepCutAuto
import Derived.Deep.RegionHeld3
namespace Go.Proofs.Ytcblpoeeembniaa
open Go Go.RowKit
set_option linter.unusedVariables false
set_option linter.unusedSimpArgs false
set_option maxRecDepth 100000 in
set_option maxHeartbeats 8000000 in
theorem specShelves_any (p : PalletV) (a : Option Addr) (n c : Nat) (bs : List BoxV) (w : World) (hr : RdR BoxV.cells 4 w a n bs) (hn : n ≤ 1048576) :
 Calls Try.prog 22 #[.agg #[.int .i64 p.wd, .int .i64 p.dp, .int .i64 p.ht, .int .i64 p.gram], .slice a n c] w fun e w' => ∃ (g cap : Nat) (xs : List ShelfW), e = .returned (.slice (some ⟨g, 0, none⟩) xs.length cap) ∧ OwnShelf w' w.heap.size g cap xs ∧ xs.map ShelfW.car = shelvesR p bs ∧ Below w.heap.size w w' := by
 obtain ⟨i0, hi, hz0, hz1, hz2⟩ := info_parts Try.infoShelf'
 have hbl := hr.1
 have HR := hide hr
 clear hr
 go_enter Try.func22, Try.ntmps22
 go_wp2_with fail
 have hbw : Below w.heap.size w ((w.alloc (.cells #[.int .i64 p.wd, .int .i64 p.dp, .int .i64 p.ht, .int .i64 p.gram] 27)).alloc (.cells #[] 51)) := ((Below.refl _ _).alloc (Nat.le_refl _) _).alloc (by simp) _
 have KP : Hid (Blk ((w.alloc (.cells #[.int .i64 p.wd, .int .i64 p.dp, .int .i64 p.ht, .int .i64 p.gram] 27)).alloc (.cells #[] 51)) w.heap.size [.int .i64 p.wd, .int .i64 p.dp, .int .i64 p.ht, .int .i64 p.gram]) := (Blk.allocAt [.int .i64 p.wd, .int .i64 p.dp, .int .i64 p.ht, .int .i64 p.gram] rfl).allocOld (by simp) _
 have hszw : ((w.alloc (.cells #[.int .i64 p.wd, .int .i64 p.dp, .int .i64 p.ht, .int .i64 p.gram] 27)).alloc (.cells #[] 51)).heap.size = w.heap.size + 1 + 1 := by simp
 have OL : Hid (OwnShelf ((w.alloc (.cells #[.int .i64 p.wd, .int .i64 p.dp, .int .i64 p.ht, .int .i64 p.gram] 27)).alloc (.cells #[] 51)) (w.heap.size + 1) (w.heap.size + 1) 0 []) := ⟨by have h := own_lit0' (e := 51) (size := 5) (w.alloc (.cells #[.int .i64 p.wd, .int .i64 p.dp, .int .i64 p.ht, .int .i64 p.gram] 27)) (B := w.heap.size + 1) (by simp); rw [show (w.alloc (.cells #[.int .i64 p.wd, .int .i64 p.dp, .int .i64 p.ht, .int .i64 p.gram] 27)).heap.size = w.heap.size + 1 by simp] at h; exact h, Rws.nil⟩
 generalize ((w.alloc (.cells #[.int .i64 p.wd, .int .i64 p.dp, .int .i64 p.ht, .int .i64 p.gram] 27)).alloc (.cells #[] 51)) = W at *
 have HRW : Hid (RdR BoxV.cells 4 W a n bs) := HR.out.mono (by omega) BoxV.len hbw
 have HBW := hide hbw
 have HLO : Hid (∀ x, a = some x → 0 < n → x.block < w.heap.size) := fun x hx h0 => by
  obtain ⟨b, off, e, hc⟩ := HR.out.2 0 h0
  rw [hx] at e
  cases e
  have h1 := hc 0 (by omega)
  rw [List.getElem?_eq_getElem (by rw [BoxV.len]; omega)] at h1
  exact World.block_lt_of_cell? w _ h1
 clear hbw HR
 refine (specBoxesOk_any p a n c bs W HRW.out hn).mono ?_
 rintro e w2 ⟨rfl, hb2⟩
 have HB2 := hide hb2
 have OL2 := hide (OL.out.later hb2)
 clear hb2 OL
 cases hbx : boxesB p bs
 case false =>
  have HE : Hid (shelvesR p bs = []) := by rw [Hid, shelvesR, hbx]; simp
  go_wp2_with fail
  go_ret
  exact ⟨w.heap.size + 1, 0, [], rfl, OL2.out.low (by omega), HE.out.symm, HBW.out.trans (HB2.out.mono HBW.out.size)⟩
 have HBX := hide hbx
 have HPAL := hide (boxesB_pal hbx)
 clear hbx
 obtain ⟨j0, hj, hy0, hy1, hy2⟩ := info_parts Try.infoInt
 have hsz2 := HB2.out.size
 have HRW2 : Hid (RdR BoxV.cells 4 w2 a n bs) := HRW.out.mono (by omega) BoxV.len HB2.out
 go_wp2
 have O1 := hide (own_lit0' (e := 3) (size := 1) w2 (Nat.le_refl _))
 have B1 : Hid (Below w2.heap.size w2 (w2.alloc (.cells #[] 3))) := (Below.refl _ _).alloc (Nat.le_refl _) _
 generalize (w2.alloc (.cells #[] 3)) = w2l at *
 go_loopw [6, 7] (fun o i wr => ∃ (k g cap : Nat), k ≤ n ∧ i = .int .i64 k ∧ o = .slice (some ⟨g, 0, none⟩) k cap ∧ wr.ownsRow w2.heap.size 3 1 (.slice (some ⟨g, 0, none⟩) k cap) k (((bs.take k).map (fun s => s.dp)).map (Value.int .i64)) ∧ Below w2.heap.size w2 wr) (fun _ i _ => n - (intOf i).toNat)
 case atStart => exact ⟨0, w2.heap.size, 0, Nat.zero_le _, rfl, rfl, unhide O1, unhide B1⟩
 case round =>
  clear O1 B1
  obtain ⟨k, g, cap, hk, rfl, rfl, hown, hbel⟩ := hrel
  have HO := hide hown
  have HB := hide hbel
  by_cases hlt : k < n
  case pos =>
   obtain ⟨b, off, rfl, hc⟩ := (HRW2.out.mono (by omega) BoxV.len hbel).2 k hlt
   have d1 : wr.cell? ⟨b, off + k * 4 + 1, none⟩ = some (.int .i64 (bs.getD k default).dp) := hc 1 (by omega)
   have HTK := hide (dp_take (fun s => s.dp) bs k (by omega))
   generalize bs.getD k default = q at d1 HTK
   have hz : w2.heap.size ≤ wr.heap.size := hbel.size
   clear hown hbel hc
   have O3 := hide (HO.out.alloc (.cells #[.int .i64 q.dp] 3))
   go_wp2_with (first
    | (at_builtin; refine wpList_append_lies _ rfl _ _ 49 rfl w2.heap.size 3 j0 (.int .i64 0) 1 8 Try.underlying49 hj hy0 hy1 hy2 rfl (by omega) (.slice (some ⟨g, 0, none⟩) k cap) k (((bs.take k).map (fun s => s.dp)).map (Value.int .i64)) rfl O3.out ⟨wr.heap.size, 0, none⟩ 1 1 [.int .i64 q.dp] rfl rfl (World.news_of_block (heap_alloc_new _ _)) (by simp [Value.oneCell']) (by omega) (by unfold maxLen; omega) (by omega) (by simp; omega) (wr.heap.size + 1) (by simp) ?_; intro g3 cap3 w3 ho3 hg3 hat3 hlt3)
    | fail)
   have B4 : Hid (Below w2.heap.size w2 w3) := (HB.out.alloc hz (.cells #[.int .i64 q.dp] 3)).grown hg3 (by simp; omega) (fun q hq => by simp [Value.ownBlock] at hq; have := own_base HO.out; omega)
   have O4 : Hid (w3.ownsRow w2.heap.size 3 1 (.slice (some ⟨g3, 0, none⟩) (k + 1) cap3) (k + 1) (((bs.take (k + 1)).map (fun s => s.dp)).map (Value.int .i64))) := by rw [unhide HTK, List.map_append]; exact ho3
   clear ho3 hg3 hat3 hlt3
   go_roundw
   case rel => exact ⟨k + 1, g3, cap3, by omega, by go_num, rfl, unhide O4, unhide B4⟩
   case measure => simp [intOf]; omega
  case neg =>
  obtain rfl : k = n := by omega
  have hx : bs.take k = bs := List.take_of_length_le (by omega)
  rw [hx] at hown
  have HRD := hide (Rd.of_owns hown)
  have hszr := hbel.size
  clear hbel hown HO
  go_wp2_with fail
  refine (specSortDown_any _ k cap (bs.map (fun s => s.dp)) wr HRD.out hn).mono ?_
  rintro e w3 ⟨gO, cO, rfl, ho3, hb3⟩
  have hgO := own_base ho3
  have HS0 : Hid (Sv w3 (w.heap.size + 1) gO k (orderB bs) (w.heap.size + 1) 0 []) := ⟨(OL2.out.later HB.out).later hb3, by omega, fun i hi => absurd hi (Nat.not_lt_zero _), fun i hi => (ho3.cellAt i (by omega)).trans (by unfold orderB; rw [hbl]; exact cellsN_at' _ i (by have := (sortP_perm (bs.map (fun s => s.dp)) true (List.range k)).length_eq; simp at this; omega)), (ho3.lt gO rfl).2⟩
  have HB3 : Hid (Below (w.heap.size + 1) W w3) := ((HB2.out.mono (show (w.heap.size + 1) ≤ W.heap.size by omega)).trans (HB.out.mono (show (w.heap.size + 1) ≤ w2.heap.size by omega))).trans (hb3.mono (show (w.heap.size + 1) ≤ wr.heap.size by omega))
  clear ho3 hb3 OL2 HB2 hgO HB HRD HRW2 hszr hx
  go_wp2
  go_loopw [5, 9] (fun s i wr => ∃ (j g cap : Nat) (xs : List ShelfW), j ≤ k ∧ i = .int .i64 j ∧ s = .slice (some ⟨g, 0, none⟩) xs.length cap ∧ Sv wr (w.heap.size + 1) gO k (orderB bs) g cap xs ∧ xs.map ShelfW.car = shelvesTo p bs ((orderB bs).take j) ∧ Below (w.heap.size + 1) W wr) (fun _ i _ => k - (intOf i).toNat)
  case atStart => exact ⟨0, w.heap.size + 1, 0, [], Nat.zero_le _, rfl, rfl, unhide HS0, rfl, unhide HB3⟩
  case round =>
  clear HS0 HB3
  obtain ⟨j, g, cap, xs, hk, rfl, rfl, hsv, hmap, hbel⟩ := hrel
  have HSV := hide hsv
  have HB := hide hbel
  have HM := hide hmap
  by_cases hlk : j < k
  case neg =>
   have HE : Hid (xs.map ShelfW.car = shelvesR p bs) := by
    rw [Hid, shelvesR, if_pos HBX.out, unhide HM, List.take_of_length_le (by rw [orderB_len]; omega)]
   clear hsv hmap hbel
   go_wp2
   go_ret
   exact ⟨g, cap, xs, rfl, HSV.out.own.low (by omega), unhide HE, HBW.out.trans (HB.out.mono (by omega))⟩
  case pos =>
   obtain ⟨hok, htot, hlen⟩ := to_known HBX.out j (by omega)
   rw [← hmap] at hok htot hlen
   have HOK := hide hok
   have HTOT := hide htot
   have hxl : xs.length ≤ j := by simpa using hlen
   have hpl := orderB_lt bs j (by omega)
   have HBB := hide (boxesB_in HBX.out hpl)
   have HST := hide (shelvesTo_step p bs (orderB bs) j (by rw [orderB_len]; omega))
   rw [← unhide HM] at HST
   have cO := hsv.ord j hlk
   generalize (orderB bs).getD j 0 = pl at cO hpl HBB HST
   obtain ⟨b, off, ha, hc⟩ := HRW.out.2 pl (by omega)
   have hblt := HLO.out _ ha (by omega)
   dsimp only at hblt
   subst ha
   have hBX := hide (fun (x : World) (hx : Below (w.heap.size + 1) W x) => (⟨(hx.cell (p := ⟨b, off + pl * 4, none⟩) (show b < _ by omega)).trans (hc 0 (by omega)), (hx.cell (p := ⟨b, off + pl * 4 + 1, none⟩) (show b < _ by omega)).trans (hc 1 (by omega)), (hx.cell (p := ⟨b, off + pl * 4 + 2, none⟩) (show b < _ by omega)).trans (hc 2 (by omega)), (hx.cell (p := ⟨b, off + pl * 4 + 3, none⟩) (show b < _ by omega)).trans (hc 3 (by omega))⟩ :
    x.cell? ⟨b, off + pl * 4, none⟩ = some (.int .i64 (bs.getD pl default).wd) ∧ x.cell? ⟨b, off + pl * 4 + 1, none⟩ = some (.int .i64 (bs.getD pl default).dp) ∧ x.cell? ⟨b, off + pl * 4 + 2, none⟩ = some (.int .i64 (bs.getD pl default).ht) ∧ x.cell? ⟨b, off + pl * 4 + 3, none⟩ = some (.int .i64 (bs.getD pl default).gram)))
   have HPC := hide (fun (x : World) (hx : Below (w.heap.size + 1) W x) => (⟨(hx.cell (p := ⟨w.heap.size, 0, none⟩) (show w.heap.size < _ by omega)).trans (KP.out 0 (by simp)).1, (hx.cell (p := ⟨w.heap.size, 1, none⟩) (show w.heap.size < _ by omega)).trans (KP.out 1 (by simp)).1, (hx.cell (p := ⟨w.heap.size, 2, none⟩) (show w.heap.size < _ by omega)).trans (KP.out 2 (by simp)).1, (hx.cell (p := ⟨w.heap.size, 3, none⟩) (show w.heap.size < _ by omega)).trans (KP.out 3 (by simp)).1⟩ :
    x.cell? ⟨w.heap.size, 0, none⟩ = some (.int .i64 p.wd) ∧ x.cell? ⟨w.heap.size, 1, none⟩ = some (.int .i64 p.dp) ∧ x.cell? ⟨w.heap.size, 2, none⟩ = some (.int .i64 p.ht) ∧ x.cell? ⟨w.heap.size, 3, none⟩ = some (.int .i64 p.gram)))
   have HSR := hide (fun (zs : List ShelfV) (s : ShelfV) (h : roomS p s (bs.getD pl default) = true) => stepS_room (p := p) (bs := bs) (zs := zs) (s := s) (i := pl) h)
   have HSN := hide (fun (zs : List ShelfV) (s : ShelfV) (h : roomS p s (bs.getD pl default) = false) => stepS_new (p := p) (bs := bs) (zs := zs) (s := s) (i := pl) h)
   have HS1 := hide (stepS_first (p := p) (bs := bs) (i := pl))
   generalize bs.getD pl default = q at hBX HBB HSR HSN HS1
   have hsz : w.heap.size + 1 ≤ wr.heap.size := by have := hbel.size; omega
   clear hsv hmap hbel hc hok htot hlen
   rcases List.eq_nil_or_concat xs with hxs | ⟨ys, r, hxs⟩
   · have hx0 : xs.length = 0 := by rw [hxs]; rfl
     have HLEN := hide hx0
     have HNEW : Hid (stepS p bs (xs.map ShelfW.car) pl = xs.map ShelfW.car ++ [ShelfV.zero.add (pl : Int) q]) := by rw [Hid, hxs]; exact unhide HS1
     rw [hx0]
     clear hx0 hxs
     obtain ⟨d0, d1, d2, d3⟩ := hBX.out wr HB.out
     obtain ⟨x0, x1, x2, x3⟩ := HPC.out wr HB.out
     have hpb := box_in HBB.out
     have hpp := pal_in HPAL.out
     go_upto_region 15 with fail
     have hbx0 : Below wr.heap.size wr (wr.alloc (.cells #[.int .i64 q.wd, .int .i64 q.dp, .int .i64 q.ht, .int .i64 q.gram] 52)) := (Below.refl _ _).alloc (Nat.le_refl _) _
     have KX0 : Blk (wr.alloc (.cells #[.int .i64 q.wd, .int .i64 q.dp, .int .i64 q.ht, .int .i64 q.gram] 52)) wr.heap.size [.int .i64 q.wd, .int .i64 q.dp, .int .i64 q.ht, .int .i64 q.gram] := Blk.allocAt [.int .i64 q.wd, .int .i64 q.dp, .int .i64 q.ht, .int .i64 q.gram] rfl
     have hzx0 : wr.heap.size < (wr.alloc (.cells #[.int .i64 q.wd, .int .i64 q.dp, .int .i64 q.ht, .int .i64 q.gram] 52)).heap.size := by simp
     generalize (wr.alloc (.cells #[.int .i64 q.wd, .int .i64 q.dp, .int .i64 q.ht, .int .i64 q.gram] 52)) = wx at *
     have HSX := hide (HSV.out.later hbx0)
     have HBX8 := hide (HB.out.trans (hbx0.mono hsz))
     have cOx : wx.cell? ⟨gO, j, none⟩ = some (.int .i64 (pl : Int)) := (hbx0.cell (p := ⟨gO, j, none⟩) HSV.out.lt).trans cO
     have hgx := HSX.out.lt
     obtain ⟨e0, e1, e2, e3⟩ := Blk.cs4 KX0
     clear d0 d1 d2 d3 x0 x1 x2 x3 cO
     obtain ⟨x0, x1, x2, x3⟩ := HPC.out wx HBX8.out
     have HX := hide KX0
     have HBX0 := hide hbx0
     clear KX0 hbx0
     go_cut [79] (fun v wc => v = .bool false ∧ Below wx.heap.size wx wc)
     case first =>
      go_region
      all_goals
       try simp only [Act.put, zz1, zz2, zz3, zz4, zz5, zz6]
       go_wp2
       go_meet
       case rel => exact ⟨rfl, by first | exact (Below.refl _ _).drew | exact below_drewN (Below.refl _ _) _⟩
     case rest =>
      obtain ⟨rfl, hb9⟩ := hcut
      have hz9 := hb9.size
      have hwz := HBX0.out.size
      have HS9 := hide (HSX.out.later hb9)
      have HB9 := hide (HBX8.out.trans (hb9.mono (by omega)))
      have Bwc : Hid (Below wc.heap.size wc wc) := Below.refl _ _
      have hXl : wr.heap.size < wc.heap.size := by omega
      have hgOl : gO < wc.heap.size := by omega
      have CO := hide ((hb9.cell (p := ⟨gO, j, none⟩) hgx).trans cOx)
      have D0 := hide ((hb9.cell (p := ⟨wr.heap.size, 0, none⟩) hzx0).trans e0)
      have D1 := hide ((hb9.cell (p := ⟨wr.heap.size, 1, none⟩) hzx0).trans e1)
      have D2 := hide ((hb9.cell (p := ⟨wr.heap.size, 2, none⟩) hzx0).trans e2)
      have D3 := hide ((hb9.cell (p := ⟨wr.heap.size, 3, none⟩) hzx0).trans e3)
      clear hb9 e0 e1 e2 e3 x0 x1 x2 x3 cOx
      go_upto_region 17 with fail
      refine wp_region_noPanic ?_
      have Bu0 : Hid (Below wc.heap.size wc wc.drew) := Bwc.out.drew
      obtain ⟨S, hSdef⟩ : ∃ S : World → Prop, S = (fun w' => w'.cell? ⟨wr.heap.size, 0, none⟩ = some (.int .i64 q.wd) ∧ w'.cell? ⟨wr.heap.size, 1, none⟩ = some (.int .i64 q.dp) ∧ w'.cell? ⟨wr.heap.size, 2, none⟩ = some (.int .i64 q.ht) ∧ w'.cell? ⟨wr.heap.size, 3, none⟩ = some (.int .i64 q.gram) ∧ w'.cell? ⟨gO, j, none⟩ = some (.int .i64 (pl : Int))) := ⟨_, rfl⟩
      have hSmk : ∀ wq, (wq.cell? ⟨wr.heap.size, 0, none⟩ = some (.int .i64 q.wd)) → (wq.cell? ⟨wr.heap.size, 1, none⟩ = some (.int .i64 q.dp)) → (wq.cell? ⟨wr.heap.size, 2, none⟩ = some (.int .i64 q.ht)) → (wq.cell? ⟨wr.heap.size, 3, none⟩ = some (.int .i64 q.gram)) → (wq.cell? ⟨gO, j, none⟩ = some (.int .i64 (pl : Int))) → S wq := fun wq p0 p1 p2 p3 p4 => by rw [hSdef]; exact ⟨p0, p1, p2, p3, p4⟩
      have hSd : ∀ wq, S wq → (fun w' => w'.cell? ⟨wr.heap.size, 0, none⟩ = some (.int .i64 q.wd) ∧ w'.cell? ⟨wr.heap.size, 1, none⟩ = some (.int .i64 q.dp) ∧ w'.cell? ⟨wr.heap.size, 2, none⟩ = some (.int .i64 q.ht) ∧ w'.cell? ⟨wr.heap.size, 3, none⟩ = some (.int .i64 q.gram) ∧ w'.cell? ⟨gO, j, none⟩ = some (.int .i64 (pl : Int))) wq := fun wq h => by rw [hSdef] at h; exact h
      clear hSdef
      have hHeld : S wc.drew := hSmk wc.drew ((Bu0.out.cell (p := ⟨wr.heap.size, 0, none⟩) hXl).trans D0.out) ((Bu0.out.cell (p := ⟨wr.heap.size, 1, none⟩) hXl).trans D1.out) ((Bu0.out.cell (p := ⟨wr.heap.size, 2, none⟩) hXl).trans D2.out) ((Bu0.out.cell (p := ⟨wr.heap.size, 3, none⟩) hXl).trans D3.out) ((Bu0.out.cell (p := ⟨gO, j, none⟩) hgOl).trans CO.out)
      refine wp_region_to (S := S) (T := [9, 10]) (by kernel_rfl) hHeld (fun _ => ?_)
      generalize wc.drew = u0 at *
      have Bu0z : Hid (wc.heap.size ≤ u0.heap.size) := Bu0.out.size
      refine wpTo_ts (i := 0) (v := ?_) rfl (by kernel_rfl) hSd (by rfl) (fun w hSw => ?_) (by assumption) ?_
      rotate_left
      · ((try dsimp only [RqC] at hSw); go_simp <;> with_reducible rfl)
      refine wpTo_ts (i := 1) (v := ?_) rfl (by kernel_rfl) hSd (by rfl) (fun w hSw => ?_) (by assumption) ?_
      rotate_left
      · ((try dsimp only [RqC] at hSw); go_simp <;> with_reducible rfl)
      refine wpTo_ts (i := 2) (v := ?_) rfl (by kernel_rfl) hSd (by rfl) (fun w hSw => ?_) (by assumption) ?_
      rotate_left
      · ((try dsimp only [RqC] at hSw); go_simp <;> with_reducible rfl)
      try simp only [Act.put, zz1, zz2, zz3, zz4, zz5, zz6]
      refine wpTo_ts (i := 3) (v := ?_) rfl (by kernel_rfl) hSd (by rfl) (fun w hSw => ?_) (by assumption) ?_
      rotate_left
      · ((try dsimp only [RqC] at hSw); go_simp <;> with_reducible rfl)
      refine wpTo_ts (i := 4) (v := ?_) rfl (by kernel_rfl) hSd (by rfl) (fun w hSw => ?_) (by assumption) ?_
      rotate_left
      · ((try dsimp only [RqC] at hSw); go_simp <;> with_reducible rfl)
      refine wpTo_ts (i := 5) (v := ?_) rfl (by kernel_rfl) hSd (by rfl) (fun w hSw => ?_) (by assumption) ?_
      rotate_left
      · ((try dsimp only [RqC] at hSw); go_simp <;> with_reducible rfl)
      try simp only [Act.put, zz1, zz2, zz3, zz4, zz5, zz6]
      refine wpTo_ts (i := 6) (v := ?_) rfl (by kernel_rfl) hSd (by rfl) (fun w hSw => ?_) (by assumption) ?_
      rotate_left
      · ((try dsimp only [RqC] at hSw); go_simp <;> with_reducible rfl)
      try simp only [Act.put, zz1, zz2, zz3, zz4, zz5, zz6]
      refine wpTo_ready (rs := [7]) (by kernel_rfl) (by simp) ?_
      refine AllTo.cons (o := _) rfl (fun K hK => ?_) ?_
      ·
       (try simp only [zz1, zz2, zz3])
       go_simp
       refine (l10Add_zero (pl : Int) 0 0 0 0 q.wd q.dp q.ht q.gram u0 (by omega) (by omega) (by omega) (by omega) (by omega) (by omega) (by omega) (by omega)).mono ?_
       rintro e u1 ⟨gA, cA, rfl, hoA, hb⟩
       have Bu1 := hide (Bu0.out.trans (hb.mono Bu0.out.size))
       have Qru1 : Hid (RowV.own u1 u0.heap.size ⟨gA, cA, [] ++ [(pl : Int)]⟩) := hoA
       clear hoA
       clear hb
       clear Bu0 
       clear hHeld
       go_wp2_with fail
       have hHeld := hSmk u1 ((Bu1.out.cell (p := ⟨wr.heap.size, 0, none⟩) hXl).trans D0.out) ((Bu1.out.cell (p := ⟨wr.heap.size, 1, none⟩) hXl).trans D1.out) ((Bu1.out.cell (p := ⟨wr.heap.size, 2, none⟩) hXl).trans D2.out) ((Bu1.out.cell (p := ⟨wr.heap.size, 3, none⟩) hXl).trans D3.out) ((Bu1.out.cell (p := ⟨gO, j, none⟩) hgOl).trans CO.out)
       refine hK.out _ _ (fun _ => hHeld) ?_
       clear hK K
       try simp only [Act.put, zz1, zz2, zz3, zz4, zz5, zz6]
       refine wpTo_ready (rs := [8]) (by kernel_rfl) (by simp) ?_
       refine AllTo.cons (o := _) rfl (fun K hK => ?_) ?_
       ·
        (try simp only [zz1, zz2, zz3])
        go_simp
        clear hHeld
        generalize hW : (u1.alloc (.cells #[.slice (some ⟨gA, 0, none⟩) 1 cA, .int .i64 q.wd, .int .i64 (mx 0 q.dp), .int .i64 (mx 0 q.ht), .int .i64 q.gram] 51)) = u2 at *
        obtain ⟨hb, Klu2, Zlu2⟩ := en1 hW
        have hb := unhide hb
        have Bu2 := hide (Bu1.out.trans (hb.mono Bu1.out.size))
        have Gl : wc.heap.size ≤ u1.heap.size := Bu1.out.size
        have Qru2 : Hid (RowV.own u2 u0.heap.size ⟨gA, cA, [] ++ [(pl : Int)]⟩) := RowV.own.later Qru1.out hb
        clear hb hW
        clear Bu1 Qru1
        have hHeld := hSmk u2 ((Bu2.out.cell (p := ⟨wr.heap.size, 0, none⟩) hXl).trans D0.out) ((Bu2.out.cell (p := ⟨wr.heap.size, 1, none⟩) hXl).trans D1.out) ((Bu2.out.cell (p := ⟨wr.heap.size, 2, none⟩) hXl).trans D2.out) ((Bu2.out.cell (p := ⟨wr.heap.size, 3, none⟩) hXl).trans D3.out) ((Bu2.out.cell (p := ⟨gO, j, none⟩) hgOl).trans CO.out)
        refine hK.out _ _ (fun _ => hHeld) ?_
        clear hK K
        try simp only [Act.put, zz1, zz2, zz3, zz4, zz5, zz6]
        refine wpTo_ready (rs := [9]) (by kernel_rfl) (by simp) ?_
        refine AllTo.cons (o := _) rfl (fun K hK => ?_) ?_
        ·
         skip
         have HOLD : Hid (u2.ownsRow (w.heap.size + 1) 51 5 (.slice (some ⟨g, 0, none⟩) 0 cap) 0 (cellsShelf xs)) := by have h := (HS9.out.later Bu2.out).own.out; rw [unhide HLEN] at h; exact h
         have hBz : (w.heap.size + 1) ≤ u2.heap.size := by have h1 := HB9.out.size; have h2 := Bu2.out.size; omega
         refine step_append_some _ (by rfl) _ _ 36 (by rfl) (w.heap.size + 1) 51 i0 (.agg #[.slice none 0 0, .int .i64 0, .int .i64 0, .int .i64 0, .int .i64 0]) 5 56 Try.underlying36 hi hz0 hz1 hz2 rfl (by omega) (.slice (some ⟨g, 0, none⟩) 0 cap) (0) (cellsShelf xs) (by rfl) HOLD.out (by simp) ⟨u1.heap.size, 0, none⟩ 1 1 [.slice (some ⟨gA, 0, none⟩) 1 cA, .int .i64 q.wd, .int .i64 (mx 0 q.dp), .int .i64 (mx 0 q.ht), .int .i64 q.gram] (by rfl) rfl (Klu2.out.news) (by simp [Value.oneCell']) (by unfold maxLen; omega) (by omega) hBz ?_
         intro g3 cap3 u3 ho6 hg6 hat6 hlt6
         obtain ⟨R, hR⟩ : ∃ R : ShelfW, R = ⟨gA, cA, [] ++ [(pl : Int)], q.wd, mx 0 q.dp, mx 0 q.ht, q.gram⟩ := ⟨_, rfl⟩
         have hRr : R.row = ⟨gA, cA, [] ++ [(pl : Int)]⟩ := by rw [hR]; rfl
         have hRc : R.cells = [.slice (some ⟨gA, 0, none⟩) 1 cA, .int .i64 q.wd, .int .i64 (mx 0 q.dp), .int .i64 (mx 0 q.ht), .int .i64 q.gram] := by rw [hR]; rfl
         have HNV := hide (Sv.more HS9.out (by have h1 := HB9.out.size; omega) Bu2.out (R := R) (by rw [hRr]; exact World.ownsRow.mono Qru2.out Bu0z.out) (by rw [hRc, unhide HLEN]; exact ho6) hg6 (hat6.imp (fun e => by simpa [Value.ownBlock] using e) (fun e => e)))
         have HNB : Hid (Below (w.heap.size + 1) W u3) := HB9.out.trans (((Bu2.out.mono (by have h1 := HB9.out.size; omega))).grown hg6 hBz (fun b hb => by have := own_base HOLD.out; simp [Value.ownBlock] at hb; omega))
         have HRC : Hid (R.car = ShelfV.zero.add (pl : Int) q) := by rw [hR]; simp [Hid, ShelfW.car, ShelfV.add, ShelfV.zero]
         clear ho6 hg6 hat6 hlt6 hHeld
         refine hK.out _ _ (fun hn => absurd (by decide) hn) ?_
         clear hK K
         try simp only [Act.put, zz1, zz2, zz3, zz4, zz5, zz6]
         refine wpTo_ready (rs := [10]) (by kernel_rfl) (by simp) ?_
         refine AllTo.cons (o := _) rfl (fun K hK => ?_) ?_
         ·
          (try simp only [zz1, zz2, zz3])
          go_simp
          refine hK.out _ _ (fun hn => absurd (by decide) hn) ?_
          clear hK K
          try simp only [Act.put, zz1, zz2, zz3, zz4, zz5, zz6]
          refine wpTo_done (by kernel_rfl) ?_ _
          refine NoPanic.normal ?_
          have HM7 : Hid ((xs ++ [R]).map ShelfW.car = shelvesTo p bs ((orderB bs).take (j + 1))) := by rw [Hid, unhide HST, unhide HNEW, List.map_append]; simp [unhide HRC]
          go_wp2_with fail
          go_roundw
          case rel => exact ⟨j + 1, g3, cap3, xs ++ [R], by omega, by go_num, by rw [List.length_append, unhide HLEN]; rfl, unhide HNV, unhide HM7, unhide HNB⟩
          case measure => simp [intOf]; omega
         exact AllTo.nil
        exact AllTo.nil
       exact AllTo.nil
      exact AllTo.nil
   · have hxs2 : xs = ys ++ [r] := by rw [hxs]; simp
     clear hxs
     have hyl : xs.length = ys.length + 1 := by rw [hxs2]; simp
     have hyn : ys.length + 1 ≤ j := by omega
     have hyi : (ys.length : Int) < (ys.length : Int) + 1 := by omega
     have HRO : Hid (ShelfOk p r.car) := HOK.out _ (by rw [hxs2]; simp)
     have hrl : r.l.length ≤ j := by have h1 := totShelf_le (xs.map ShelfW.car) ys.length (by simp; omega); rw [unhide HTOT, ShelfW.getD_car _ _ (by omega), hxs2, getD_snoc_eq] at h1; exact h1
     have o0 := HRO.out.w0
     have o1 := HRO.out.w1
     have o2 := HRO.out.g0
     have o3 := HRO.out.g1
     simp only [ShelfW.car] at o0 o1 o2 o3
     have c1 : wr.cell? ⟨g, ys.length * 5 + 1, none⟩ = some (.int .i64 r.wd) := by have := (HSV.out.own.cell ys.length (by omega) 1 (by omega)).1; rw [hxs2, getD_snoc_eq] at this; exact this
     have c4 : wr.cell? ⟨g, ys.length * 5 + 4, none⟩ = some (.int .i64 r.gram) := by have := (HSV.out.own.cell ys.length (by omega) 4 (by omega)).1; rw [hxs2, getD_snoc_eq] at this; exact this
     have hgw := (HSV.out.own.out.lt g rfl).2
     have HXS := hide hxs2
     have HLEN := hide hyl
     rw [hyl]
     clear hxs2 hyl
     obtain ⟨d0, d1, d2, d3⟩ := hBX.out wr HB.out
     obtain ⟨x0, x1, x2, x3⟩ := HPC.out wr HB.out
     have hpb := box_in HBB.out
     have hpp := pal_in HPAL.out
     go_upto_region 15 with fail
     have hbx0 : Below wr.heap.size wr (wr.alloc (.cells #[.int .i64 q.wd, .int .i64 q.dp, .int .i64 q.ht, .int .i64 q.gram] 52)) := (Below.refl _ _).alloc (Nat.le_refl _) _
     have KX0 : Blk (wr.alloc (.cells #[.int .i64 q.wd, .int .i64 q.dp, .int .i64 q.ht, .int .i64 q.gram] 52)) wr.heap.size [.int .i64 q.wd, .int .i64 q.dp, .int .i64 q.ht, .int .i64 q.gram] := Blk.allocAt [.int .i64 q.wd, .int .i64 q.dp, .int .i64 q.ht, .int .i64 q.gram] rfl
     have hzx0 : wr.heap.size < (wr.alloc (.cells #[.int .i64 q.wd, .int .i64 q.dp, .int .i64 q.ht, .int .i64 q.gram] 52)).heap.size := by simp
     generalize (wr.alloc (.cells #[.int .i64 q.wd, .int .i64 q.dp, .int .i64 q.ht, .int .i64 q.gram] 52)) = wx at *
     have HSX := hide (HSV.out.later hbx0)
     have HBX8 := hide (HB.out.trans (hbx0.mono hsz))
     have cOx : wx.cell? ⟨gO, j, none⟩ = some (.int .i64 (pl : Int)) := (hbx0.cell (p := ⟨gO, j, none⟩) HSV.out.lt).trans cO
     have hgx := HSX.out.lt
     obtain ⟨e0, e1, e2, e3⟩ := Blk.cs4 KX0
     clear d0 d1 d2 d3 x0 x1 x2 x3 cO
     obtain ⟨x0, x1, x2, x3⟩ := HPC.out wx HBX8.out
     have HX := hide KX0
     have HBX0 := hide hbx0
     clear KX0 hbx0
     have C1 : wx.cell? ⟨g, ys.length * 5 + 1, none⟩ = some (.int .i64 r.wd) := (HBX0.out.cell (p := ⟨g, ys.length * 5 + 1, none⟩) hgw).trans c1
     have C4 : wx.cell? ⟨g, ys.length * 5 + 4, none⟩ = some (.int .i64 r.gram) := (HBX0.out.cell (p := ⟨g, ys.length * 5 + 4, none⟩) hgw).trans c4
     clear c1 c4
     have hcs : (r.wd + q.wd ≤ p.wd ∧ r.gram + q.gram ≤ p.gram) ∨ (r.wd + q.wd ≤ p.wd ∧ ¬ r.gram + q.gram ≤ p.gram) ∨ ¬ r.wd + q.wd ≤ p.wd := by omega
     rcases hcs with ⟨n1, n2⟩ | ⟨n1, n2⟩ | n1
     · have HRM : Hid (roomS p r.car q = true) := room_iff.2 ⟨n1, n2⟩
       go_cut [79] (fun v wc => v = .bool true ∧ Below wx.heap.size wx wc)
       case first =>
        have Bwx : Hid (Below wx.heap.size wx wx) := Below.refl _ _
        have hwl : w.heap.size < wx.heap.size := by omega
        have hgx5 : g < wx.heap.size := by omega
        have F0 := hide e0
        have F3 := hide e3
        have X0 := hide x0
        have X3 := hide x3
        have G1 := hide C1
        have G4 := hide C4
        clear e0 e1 e2 e3 x0 x1 x2 x3 C1 C4
        refine wp_region_noPanic ?_
        have Bu0 : Hid (Below wx.heap.size wx wx.drew) := Bwx.out.drew
        obtain ⟨S, hSdef⟩ : ∃ S : World → Prop, S = (fun w' => w'.cell? ⟨wr.heap.size, 0, none⟩ = some (.int .i64 q.wd) ∧ w'.cell? ⟨wr.heap.size, 3, none⟩ = some (.int .i64 q.gram) ∧ w'.cell? ⟨w.heap.size, 0, none⟩ = some (.int .i64 p.wd) ∧ w'.cell? ⟨w.heap.size, 3, none⟩ = some (.int .i64 p.gram) ∧ w'.cell? ⟨g, ys.length * 5 + 1, none⟩ = some (.int .i64 r.wd) ∧ w'.cell? ⟨g, ys.length * 5 + 4, none⟩ = some (.int .i64 r.gram)) := ⟨_, rfl⟩
        have hSmk : ∀ wq, (wq.cell? ⟨wr.heap.size, 0, none⟩ = some (.int .i64 q.wd)) → (wq.cell? ⟨wr.heap.size, 3, none⟩ = some (.int .i64 q.gram)) → (wq.cell? ⟨w.heap.size, 0, none⟩ = some (.int .i64 p.wd)) → (wq.cell? ⟨w.heap.size, 3, none⟩ = some (.int .i64 p.gram)) → (wq.cell? ⟨g, ys.length * 5 + 1, none⟩ = some (.int .i64 r.wd)) → (wq.cell? ⟨g, ys.length * 5 + 4, none⟩ = some (.int .i64 r.gram)) → S wq := fun wq p0 p1 p2 p3 p4 p5 => by rw [hSdef]; exact ⟨p0, p1, p2, p3, p4, p5⟩
        have hSd : ∀ wq, S wq → (fun w' => w'.cell? ⟨wr.heap.size, 0, none⟩ = some (.int .i64 q.wd) ∧ w'.cell? ⟨wr.heap.size, 3, none⟩ = some (.int .i64 q.gram) ∧ w'.cell? ⟨w.heap.size, 0, none⟩ = some (.int .i64 p.wd) ∧ w'.cell? ⟨w.heap.size, 3, none⟩ = some (.int .i64 p.gram) ∧ w'.cell? ⟨g, ys.length * 5 + 1, none⟩ = some (.int .i64 r.wd) ∧ w'.cell? ⟨g, ys.length * 5 + 4, none⟩ = some (.int .i64 r.gram)) wq := fun wq h => by rw [hSdef] at h; exact h
        clear hSdef
        have hHeld : S wx.drew := hSmk wx.drew ((Bu0.out.cell (p := ⟨wr.heap.size, 0, none⟩) hzx0).trans F0.out) ((Bu0.out.cell (p := ⟨wr.heap.size, 3, none⟩) hzx0).trans F3.out) ((Bu0.out.cell (p := ⟨w.heap.size, 0, none⟩) hwl).trans X0.out) ((Bu0.out.cell (p := ⟨w.heap.size, 3, none⟩) hwl).trans X3.out) ((Bu0.out.cell (p := ⟨g, ys.length * 5 + 1, none⟩) hgx5).trans G1.out) ((Bu0.out.cell (p := ⟨g, ys.length * 5 + 4, none⟩) hgx5).trans G4.out)
        refine wp_region_to (S := S) (T := []) (by kernel_rfl) hHeld (fun _ => ?_)
        generalize wx.drew = u0 at *
        refine wpTo_ts (i := 0) (v := ?_) rfl (by kernel_rfl) hSd (by rfl) (fun w hSw => ?_) (by assumption) ?_
        rotate_left
        · ((try dsimp only [RqC] at hSw); go_simp <;> with_reducible rfl)
        refine wpTo_ts (i := 1) (v := ?_) rfl (by kernel_rfl) hSd (by rfl) (fun w hSw => ?_) (by assumption) ?_
        rotate_left
        · ((try dsimp only [RqC] at hSw); go_simp <;> with_reducible rfl)
        refine wpTo_ts (i := 2) (v := ?_) rfl (by kernel_rfl) hSd (by rfl) (fun w hSw => ?_) (by assumption) ?_
        rotate_left
        · ((try dsimp only [RqC] at hSw); go_simp <;> with_reducible rfl)
        try simp only [Act.put, zz1, zz2, zz3, zz4, zz5, zz6]
        refine wpTo_ts (i := 3) (v := ?_) rfl (by kernel_rfl) hSd (by rfl) (fun w hSw => ?_) (by assumption) ?_
        rotate_left
        · ((try dsimp only [RqC] at hSw); go_simp <;> with_reducible rfl)
        refine wpTo_ts (i := 4) (v := ?_) rfl (by kernel_rfl) hSd (by rfl) (fun w hSw => ?_) (by assumption) ?_
        rotate_left
        · ((try dsimp only [RqC] at hSw); go_simp <;> with_reducible rfl)
        refine wpTo_ts (i := 5) (v := ?_) rfl (by kernel_rfl) hSd (by rfl) (fun w hSw => ?_) (by assumption) ?_
        rotate_left
        · ((try dsimp only [RqC] at hSw); go_simp <;> with_reducible rfl)
        try simp only [Act.put, zz1, zz2, zz3, zz4, zz5, zz6]
        rw [wrap_fits (x := (ys.length : Int)) (by omega) (by omega)]
        refine wpTo_ts (i := 6) (v := ?_) rfl (by kernel_rfl) hSd (by rfl) (fun w hSw => ?_) (by assumption) ?_
        rotate_left
        · ((try dsimp only [RqC] at hSw); go_simp <;> with_reducible rfl)
        try simp only [Act.put, zz1, zz2, zz3, zz4, zz5, zz6]
        refine wpTo_ts (i := 7) (v := ?_) rfl (by kernel_rfl) hSd (by rfl) (fun w hSw => ?_) (by assumption) ?_
        rotate_left
        · ((try dsimp only [RqC] at hSw); go_simp <;> with_reducible rfl)
        refine wpTo_ts (i := 8) (v := ?_) rfl (by kernel_rfl) hSd (by rfl) (fun w hSw => ?_) (by assumption) ?_
        rotate_left
        · ((try dsimp only [RqC] at hSw); go_simp <;> with_reducible rfl)
        refine wpTo_ts (i := 9) (v := ?_) rfl (by kernel_rfl) hSd (by rfl) (fun w hSw => ?_) (by assumption) ?_
        rotate_left
        · ((try dsimp only [RqC] at hSw); go_simp <;> with_reducible rfl)
        try simp only [Act.put, zz1, zz2, zz3, zz4, zz5, zz6]
        refine wpTo_ts (i := 10) (v := ?_) rfl (by kernel_rfl) hSd (by rfl) (fun w hSw => ?_) (by assumption) ?_
        rotate_left
        · ((try dsimp only [RqC] at hSw); go_simp <;> with_reducible rfl)
        refine wpTo_ts (i := 11) (v := ?_) rfl (by kernel_rfl) hSd (by rfl) (fun w hSw => ?_) (by assumption) ?_
        rotate_left
        · ((try dsimp only [RqC] at hSw); go_simp <;> with_reducible rfl)
        try simp only [Act.put, zz1, zz2, zz3, zz4, zz5, zz6]
        try rw [wrap_fits (x := r.wd + q.wd) (by omega) (by omega)]
        refine wpTo_ts (i := 12) (v := ?_) rfl (by kernel_rfl) hSd (by rfl) (fun w hSw => ?_) (by assumption) ?_
        rotate_left
        · ((try dsimp only [RqC] at hSw); go_simp <;> with_reducible rfl)
        refine wpTo_ts (i := 13) (v := ?_) rfl (by kernel_rfl) hSd (by rfl) (fun w hSw => ?_) (by assumption) ?_
        rotate_left
        · ((try dsimp only [RqC] at hSw); go_simp <;> with_reducible rfl)
        try simp only [Act.put, zz1, zz2, zz3, zz4, zz5, zz6]
        refine wpTo_ts (i := 14) (v := ?_) rfl (by kernel_rfl) hSd (by rfl) (fun w hSw => ?_) (by assumption) ?_
        rotate_left
        · ((try dsimp only [RqC] at hSw); go_simp <;> with_reducible rfl)
        try simp only [Act.put, zz1, zz2, zz3, zz4, zz5, zz6]
        try rw [show decide (r.wd + q.wd ≤ p.wd) = true from decide_eq_true n1]
        refine wpTo_ts (i := 15) (v := ?_) rfl (by kernel_rfl) hSd (by rfl) (fun w hSw => ?_) (by assumption) ?_
        rotate_left
        · ((try dsimp only [RqC] at hSw); go_simp <;> with_reducible rfl)
        refine wpTo_ts (i := 16) (v := ?_) rfl (by kernel_rfl) hSd (by rfl) (fun w hSw => ?_) (by assumption) ?_
        rotate_left
        · ((try dsimp only [RqC] at hSw); go_simp <;> with_reducible rfl)
        refine wpTo_ts (i := 17) (v := ?_) rfl (by kernel_rfl) hSd (by rfl) (fun w hSw => ?_) (by assumption) ?_
        rotate_left
        · ((try dsimp only [RqC] at hSw); go_simp <;> with_reducible rfl)
        try simp only [Act.put, zz1, zz2, zz3, zz4, zz5, zz6]
        refine wpTo_ts (i := 18) (v := ?_) rfl (by kernel_rfl) hSd (by rfl) (fun w hSw => ?_) (by assumption) ?_
        rotate_left
        · ((try dsimp only [RqC] at hSw); go_simp <;> with_reducible rfl)
        refine wpTo_ts (i := 19) (v := ?_) rfl (by kernel_rfl) hSd (by rfl) (fun w hSw => ?_) (by assumption) ?_
        rotate_left
        · ((try dsimp only [RqC] at hSw); go_simp <;> with_reducible rfl)
        try simp only [Act.put, zz1, zz2, zz3, zz4, zz5, zz6]
        rw [wrap_fits (x := (ys.length : Int)) (by omega) (by omega)]
        refine wpTo_ts (i := 20) (v := ?_) rfl (by kernel_rfl) hSd (by rfl) (fun w hSw => ?_) (by assumption) ?_
        rotate_left
        · ((try dsimp only [RqC] at hSw); go_simp <;> with_reducible rfl)
        refine wpTo_ts (i := 21) (v := ?_) rfl (by kernel_rfl) hSd (by rfl) (fun w hSw => ?_) (by assumption) ?_
        rotate_left
        · ((try dsimp only [RqC] at hSw); go_simp <;> with_reducible rfl)
        try simp only [Act.put, zz1, zz2, zz3, zz4, zz5, zz6]
        refine wpTo_ts (i := 22) (v := ?_) rfl (by kernel_rfl) hSd (by rfl) (fun w hSw => ?_) (by assumption) ?_
        rotate_left
        · ((try dsimp only [RqC] at hSw); go_simp <;> with_reducible rfl)
        refine wpTo_ts (i := 23) (v := ?_) rfl (by kernel_rfl) hSd (by rfl) (fun w hSw => ?_) (by assumption) ?_
        rotate_left
        · ((try dsimp only [RqC] at hSw); go_simp <;> with_reducible rfl)
        refine wpTo_ts (i := 24) (v := ?_) rfl (by kernel_rfl) hSd (by rfl) (fun w hSw => ?_) (by assumption) ?_
        rotate_left
        · ((try dsimp only [RqC] at hSw); go_simp <;> with_reducible rfl)
        try simp only [Act.put, zz1, zz2, zz3, zz4, zz5, zz6]
        refine wpTo_ts (i := 25) (v := ?_) rfl (by kernel_rfl) hSd (by rfl) (fun w hSw => ?_) (by assumption) ?_
        rotate_left
        · ((try dsimp only [RqC] at hSw); go_simp <;> with_reducible rfl)
        try simp only [Act.put, zz1, zz2, zz3, zz4, zz5, zz6]
        try rw [wrap_fits (x := r.gram + q.gram) (by omega) (by omega)]
        refine wpTo_ts (i := 26) (v := ?_) rfl (by kernel_rfl) hSd (by rfl) (fun w hSw => ?_) (by assumption) ?_
        rotate_left
        · ((try dsimp only [RqC] at hSw); go_simp <;> with_reducible rfl)
        refine wpTo_ts (i := 27) (v := ?_) rfl (by kernel_rfl) hSd (by rfl) (fun w hSw => ?_) (by assumption) ?_
        rotate_left
        · ((try dsimp only [RqC] at hSw); go_simp <;> with_reducible rfl)
        refine wpTo_ts (i := 28) (v := ?_) rfl (by kernel_rfl) hSd (by rfl) (fun w hSw => ?_) (by assumption) ?_
        rotate_left
        · ((try dsimp only [RqC] at hSw); go_simp <;> with_reducible rfl)
        try simp only [Act.put, zz1, zz2, zz3, zz4, zz5, zz6]
        try rw [show decide (r.gram + q.gram ≤ p.gram) = true from decide_eq_true n2]
        refine wpTo_ts (i := 29) (v := ?_) rfl (by kernel_rfl) hSd (by rfl) (fun w hSw => ?_) (by assumption) ?_
        rotate_left
        · ((try dsimp only [RqC] at hSw); go_simp <;> with_reducible rfl)
        try simp only [Act.put, zz1, zz2, zz3, zz4, zz5, zz6]
        refine wpTo_done (by kernel_rfl) ?_ _
        refine NoPanic.normal ?_
        go_wp2_with fail
        go_meet
        case rel => exact ⟨rfl, unhide Bu0⟩
       case rest =>
        clear C1 C4
        obtain ⟨rfl, hb9⟩ := hcut
        have hz9 := hb9.size
        have hwz := HBX0.out.size
        have HS9 := hide (HSX.out.later hb9)
        have HB9 := hide (HBX8.out.trans (hb9.mono (by omega)))
        have Bwc : Hid (Below wc.heap.size wc wc) := Below.refl _ _
        have hXl : wr.heap.size < wc.heap.size := by omega
        have hgOl : gO < wc.heap.size := by omega
        have CO := hide ((hb9.cell (p := ⟨gO, j, none⟩) hgx).trans cOx)
        have D0 := hide ((hb9.cell (p := ⟨wr.heap.size, 0, none⟩) hzx0).trans e0)
        have D1 := hide ((hb9.cell (p := ⟨wr.heap.size, 1, none⟩) hzx0).trans e1)
        have D2 := hide ((hb9.cell (p := ⟨wr.heap.size, 2, none⟩) hzx0).trans e2)
        have D3 := hide ((hb9.cell (p := ⟨wr.heap.size, 3, none⟩) hzx0).trans e3)
        clear hb9 e0 e1 e2 e3 x0 x1 x2 x3 cOx
        rw [unhide HXS] at HS9 HST
        obtain ⟨l1, l2, l3, l4, l5, l6⟩ := HS9.out.last
        have hcx := cellsShelf_len ys
        have hgl := (l1.lt g rfl).2
        have E0 : Hid (wc.cell? ⟨g, ys.length * 5, none⟩ = some (.slice (some ⟨r.g, 0, none⟩) r.l.length r.cap)) := (l1.cellAt (ys.length * 5 + 0) (by omega)).trans (by rw [List.getElem?_append_right (by omega), hcx, Nat.add_sub_cancel_left]; rfl)
        have E1 : Hid (wc.cell? ⟨g, ys.length * 5 + 1, none⟩ = some (.int .i64 r.wd)) := (l1.cellAt (ys.length * 5 + 1) (by omega)).trans (by rw [List.getElem?_append_right (by omega), hcx, Nat.add_sub_cancel_left]; rfl)
        have E2 : Hid (wc.cell? ⟨g, ys.length * 5 + 2, none⟩ = some (.int .i64 r.dp)) := (l1.cellAt (ys.length * 5 + 2) (by omega)).trans (by rw [List.getElem?_append_right (by omega), hcx, Nat.add_sub_cancel_left]; rfl)
        have E3 : Hid (wc.cell? ⟨g, ys.length * 5 + 3, none⟩ = some (.int .i64 r.ht)) := (l1.cellAt (ys.length * 5 + 3) (by omega)).trans (by rw [List.getElem?_append_right (by omega), hcx, Nat.add_sub_cancel_left]; rfl)
        have E4 : Hid (wc.cell? ⟨g, ys.length * 5 + 4, none⟩ = some (.int .i64 r.gram)) := (l1.cellAt (ys.length * 5 + 4) (by omega)).trans (by rw [List.getElem?_append_right (by omega), hcx, Nat.add_sub_cancel_left]; rfl)
        have HRL : Hid (Rd wc (some ⟨r.g, 0, none⟩) r.l.length r.l) := own_reads l4
        clear l1 l2 l3 l4 l5 l6 hcx
        go_upto_region 16 with fail
        refine wp_region_noPanic ?_
        have Bu0 : Hid (Below wc.heap.size wc wc.drew) := Bwc.out.drew
        obtain ⟨S, hSdef⟩ : ∃ S : World → Prop, S = (fun w' => w'.cell? ⟨wr.heap.size, 0, none⟩ = some (.int .i64 q.wd) ∧ w'.cell? ⟨wr.heap.size, 1, none⟩ = some (.int .i64 q.dp) ∧ w'.cell? ⟨wr.heap.size, 2, none⟩ = some (.int .i64 q.ht) ∧ w'.cell? ⟨wr.heap.size, 3, none⟩ = some (.int .i64 q.gram) ∧ w'.cell? ⟨gO, j, none⟩ = some (.int .i64 (pl : Int)) ∧ w'.cell? ⟨g, ys.length * 5, none⟩ = some (.slice (some ⟨r.g, 0, none⟩) r.l.length r.cap) ∧ w'.cell? ⟨g, ys.length * 5 + 1, none⟩ = some (.int .i64 r.wd) ∧ w'.cell? ⟨g, ys.length * 5 + 2, none⟩ = some (.int .i64 r.dp) ∧ w'.cell? ⟨g, ys.length * 5 + 3, none⟩ = some (.int .i64 r.ht) ∧ w'.cell? ⟨g, ys.length * 5 + 4, none⟩ = some (.int .i64 r.gram)) := ⟨_, rfl⟩
        have hSmk : ∀ wq, (wq.cell? ⟨wr.heap.size, 0, none⟩ = some (.int .i64 q.wd)) → (wq.cell? ⟨wr.heap.size, 1, none⟩ = some (.int .i64 q.dp)) → (wq.cell? ⟨wr.heap.size, 2, none⟩ = some (.int .i64 q.ht)) → (wq.cell? ⟨wr.heap.size, 3, none⟩ = some (.int .i64 q.gram)) → (wq.cell? ⟨gO, j, none⟩ = some (.int .i64 (pl : Int))) → (wq.cell? ⟨g, ys.length * 5, none⟩ = some (.slice (some ⟨r.g, 0, none⟩) r.l.length r.cap)) → (wq.cell? ⟨g, ys.length * 5 + 1, none⟩ = some (.int .i64 r.wd)) → (wq.cell? ⟨g, ys.length * 5 + 2, none⟩ = some (.int .i64 r.dp)) → (wq.cell? ⟨g, ys.length * 5 + 3, none⟩ = some (.int .i64 r.ht)) → (wq.cell? ⟨g, ys.length * 5 + 4, none⟩ = some (.int .i64 r.gram)) → S wq := fun wq p0 p1 p2 p3 p4 p5 p6 p7 p8 p9 => by rw [hSdef]; exact ⟨p0, p1, p2, p3, p4, p5, p6, p7, p8, p9⟩
        have hSd : ∀ wq, S wq → (fun w' => w'.cell? ⟨wr.heap.size, 0, none⟩ = some (.int .i64 q.wd) ∧ w'.cell? ⟨wr.heap.size, 1, none⟩ = some (.int .i64 q.dp) ∧ w'.cell? ⟨wr.heap.size, 2, none⟩ = some (.int .i64 q.ht) ∧ w'.cell? ⟨wr.heap.size, 3, none⟩ = some (.int .i64 q.gram) ∧ w'.cell? ⟨gO, j, none⟩ = some (.int .i64 (pl : Int)) ∧ w'.cell? ⟨g, ys.length * 5, none⟩ = some (.slice (some ⟨r.g, 0, none⟩) r.l.length r.cap) ∧ w'.cell? ⟨g, ys.length * 5 + 1, none⟩ = some (.int .i64 r.wd) ∧ w'.cell? ⟨g, ys.length * 5 + 2, none⟩ = some (.int .i64 r.dp) ∧ w'.cell? ⟨g, ys.length * 5 + 3, none⟩ = some (.int .i64 r.ht) ∧ w'.cell? ⟨g, ys.length * 5 + 4, none⟩ = some (.int .i64 r.gram)) wq := fun wq h => by rw [hSdef] at h; exact h
        clear hSdef
        have hHeld : S wc.drew := hSmk wc.drew ((Bu0.out.cell (p := ⟨wr.heap.size, 0, none⟩) hXl).trans D0.out) ((Bu0.out.cell (p := ⟨wr.heap.size, 1, none⟩) hXl).trans D1.out) ((Bu0.out.cell (p := ⟨wr.heap.size, 2, none⟩) hXl).trans D2.out) ((Bu0.out.cell (p := ⟨wr.heap.size, 3, none⟩) hXl).trans D3.out) ((Bu0.out.cell (p := ⟨gO, j, none⟩) hgOl).trans CO.out) ((Bu0.out.cell (p := ⟨g, ys.length * 5, none⟩) hgl).trans E0.out) ((Bu0.out.cell (p := ⟨g, ys.length * 5 + 1, none⟩) hgl).trans E1.out) ((Bu0.out.cell (p := ⟨g, ys.length * 5 + 2, none⟩) hgl).trans E2.out) ((Bu0.out.cell (p := ⟨g, ys.length * 5 + 3, none⟩) hgl).trans E3.out) ((Bu0.out.cell (p := ⟨g, ys.length * 5 + 4, none⟩) hgl).trans E4.out)
        refine wp_region_to (S := S) (T := [15]) (by kernel_rfl) hHeld (fun _ => ?_)
        generalize wc.drew = u0 at *
        have Bu0z : Hid (wc.heap.size ≤ u0.heap.size) := Bu0.out.size
        refine wpTo_ts (i := 0) (v := ?_) rfl (by kernel_rfl) hSd (by rfl) (fun w hSw => ?_) (by assumption) ?_
        rotate_left
        · ((try dsimp only [RqC] at hSw); go_simp <;> with_reducible rfl)
        try simp only [Act.put, zz1, zz2, zz3, zz4, zz5, zz6]
        refine wpTo_ts (i := 1) (v := ?_) rfl (by kernel_rfl) hSd (by rfl) (fun w hSw => ?_) (by assumption) ?_
        rotate_left
        · ((try dsimp only [RqC] at hSw); go_simp <;> with_reducible rfl)
        refine wpTo_ts (i := 2) (v := ?_) rfl (by kernel_rfl) hSd (by rfl) (fun w hSw => ?_) (by assumption) ?_
        rotate_left
        · ((try dsimp only [RqC] at hSw); go_simp <;> with_reducible rfl)
        try simp only [Act.put, zz1, zz2, zz3, zz4, zz5, zz6]
        rw [wrap_fits (x := (ys.length : Int)) (by omega) (by omega)]
        refine wpTo_ts (i := 3) (v := ?_) rfl (by kernel_rfl) hSd (by rfl) (fun w hSw => ?_) (by assumption) ?_
        rotate_left
        · ((try dsimp only [RqC] at hSw); go_simp <;> with_reducible rfl)
        refine wpTo_ts (i := 4) (v := ?_) rfl (by kernel_rfl) hSd (by rfl) (fun w hSw => ?_) (by assumption) ?_
        rotate_left
        · ((try dsimp only [RqC] at hSw); go_simp <;> with_reducible rfl)
        try simp only [Act.put, zz1, zz2, zz3, zz4, zz5, zz6]
        refine wpTo_ts (i := 5) (v := ?_) rfl (by kernel_rfl) hSd (by rfl) (fun w hSw => ?_) (by assumption) ?_
        rotate_left
        · ((try dsimp only [RqC] at hSw); go_simp <;> with_reducible rfl)
        try simp only [Act.put, zz1, zz2, zz3, zz4, zz5, zz6]
        rw [wrap_fits (x := (ys.length : Int)) (by omega) (by omega)]
        refine wpTo_ts (i := 6) (v := ?_) rfl (by kernel_rfl) hSd (by rfl) (fun w hSw => ?_) (by assumption) ?_
        rotate_left
        · ((try dsimp only [RqC] at hSw); go_simp <;> with_reducible rfl)
        refine wpTo_ts (i := 7) (v := ?_) rfl (by kernel_rfl) hSd (by rfl) (fun w hSw => ?_) (by assumption) ?_
        rotate_left
        · ((try dsimp only [RqC] at hSw); go_simp <;> with_reducible rfl)
        refine wpTo_ts (i := 8) (v := ?_) rfl (by kernel_rfl) hSd (by rfl) (fun w hSw => ?_) (by assumption) ?_
        rotate_left
        · ((try dsimp only [RqC] at hSw); go_simp <;> with_reducible rfl)
        try simp only [Act.put, zz1, zz2, zz3, zz4, zz5, zz6]
        refine wpTo_ts (i := 9) (v := ?_) rfl (by kernel_rfl) hSd (by rfl) (fun w hSw => ?_) (by assumption) ?_
        rotate_left
        · ((try dsimp only [RqC] at hSw); go_simp <;> with_reducible rfl)
        refine wpTo_ts (i := 10) (v := ?_) rfl (by kernel_rfl) hSd (by rfl) (fun w hSw => ?_) (by assumption) ?_
        rotate_left
        · ((try dsimp only [RqC] at hSw); go_simp <;> with_reducible rfl)
        refine wpTo_ts (i := 11) (v := ?_) rfl (by kernel_rfl) hSd (by rfl) (fun w hSw => ?_) (by assumption) ?_
        rotate_left
        · ((try dsimp only [RqC] at hSw); go_simp <;> with_reducible rfl)
        try simp only [Act.put, zz1, zz2, zz3, zz4, zz5, zz6]
        refine wpTo_ts (i := 12) (v := ?_) rfl (by kernel_rfl) hSd (by rfl) (fun w hSw => ?_) (by assumption) ?_
        rotate_left
        · ((try dsimp only [RqC] at hSw); go_simp <;> with_reducible rfl)
        try simp only [Act.put, zz1, zz2, zz3, zz4, zz5, zz6]
        refine wpTo_ready (rs := [13]) (by kernel_rfl) (by simp) ?_
        refine AllTo.cons (o := _) rfl (fun K hK => ?_) ?_
        ·
         (try simp only [zz1, zz2, zz3])
         go_simp
         refine (l10Add_any r.g r.cap r.l (pl : Int) r.wd r.dp r.ht r.gram q.wd q.dp q.ht q.gram u0 (HRL.out.mono Bu0.out) (by omega) (by omega) (by omega) (by omega) (by omega) (by omega) (by omega) (by omega) (by omega)).mono ?_
         rintro e u1 ⟨gA, cA, rfl, hoA, hb⟩
         have Bu1 := hide (Bu0.out.trans (hb.mono Bu0.out.size))
         have Qru1 : Hid (RowV.own u1 u0.heap.size ⟨gA, cA, r.l ++ [(pl : Int)]⟩) := hoA
         clear hoA
         clear hb
         clear Bu0 
         clear hHeld
         go_wp2_with fail
         have hHeld := hSmk u1 ((Bu1.out.cell (p := ⟨wr.heap.size, 0, none⟩) hXl).trans D0.out) ((Bu1.out.cell (p := ⟨wr.heap.size, 1, none⟩) hXl).trans D1.out) ((Bu1.out.cell (p := ⟨wr.heap.size, 2, none⟩) hXl).trans D2.out) ((Bu1.out.cell (p := ⟨wr.heap.size, 3, none⟩) hXl).trans D3.out) ((Bu1.out.cell (p := ⟨gO, j, none⟩) hgOl).trans CO.out) ((Bu1.out.cell (p := ⟨g, ys.length * 5, none⟩) hgl).trans E0.out) ((Bu1.out.cell (p := ⟨g, ys.length * 5 + 1, none⟩) hgl).trans E1.out) ((Bu1.out.cell (p := ⟨g, ys.length * 5 + 2, none⟩) hgl).trans E2.out) ((Bu1.out.cell (p := ⟨g, ys.length * 5 + 3, none⟩) hgl).trans E3.out) ((Bu1.out.cell (p := ⟨g, ys.length * 5 + 4, none⟩) hgl).trans E4.out)
         refine hK.out _ _ (fun _ => hHeld) ?_
         clear hK K
         try simp only [Act.put, zz1, zz2, zz3, zz4, zz5, zz6]
         refine wpTo_ts (i := 14) (v := ?_) rfl (by kernel_rfl) hSd (by rfl) (fun w hSw => ?_) (by assumption) ?_
         rotate_left
         · ((try dsimp only [RqC] at hSw); go_simp <;> with_reducible rfl)
         try simp only [Act.put, zz1, zz2, zz3, zz4, zz5, zz6]
         refine wpTo_ready (rs := [15]) (by kernel_rfl) (by simp) ?_
         refine AllTo.cons (o := _) rfl (fun K hK => ?_) ?_
         ·
          (try simp only [zz1, zz2, zz3])
          obtain ⟨l1, _⟩ := (HS9.out.later Bu1.out).last
          have hcx := cellsShelf_len ys
          have p0 : u1.cell? ⟨g, ys.length * 5, none⟩ = some (.slice (some ⟨r.g, 0, none⟩) r.l.length r.cap) := (l1.cellAt (ys.length * 5 + 0) (by omega)).trans (by rw [List.getElem?_append_right (by omega), hcx, Nat.add_sub_cancel_left]; rfl)
          have q0 : u1.frozen? ⟨g, ys.length * 5, none⟩ = false := l1.frozenAt (ys.length * 5)
          have p1 : u1.cell? ⟨g, ys.length * 5 + 1, none⟩ = some (.int .i64 r.wd) := (l1.cellAt (ys.length * 5 + 1) (by omega)).trans (by rw [List.getElem?_append_right (by omega), hcx, Nat.add_sub_cancel_left]; rfl)
          have q1 : u1.frozen? ⟨g, ys.length * 5 + 1, none⟩ = false := l1.frozenAt (ys.length * 5 + 1)
          have p2 : u1.cell? ⟨g, ys.length * 5 + 2, none⟩ = some (.int .i64 r.dp) := (l1.cellAt (ys.length * 5 + 2) (by omega)).trans (by rw [List.getElem?_append_right (by omega), hcx, Nat.add_sub_cancel_left]; rfl)
          have q2 : u1.frozen? ⟨g, ys.length * 5 + 2, none⟩ = false := l1.frozenAt (ys.length * 5 + 2)
          have p3 : u1.cell? ⟨g, ys.length * 5 + 3, none⟩ = some (.int .i64 r.ht) := (l1.cellAt (ys.length * 5 + 3) (by omega)).trans (by rw [List.getElem?_append_right (by omega), hcx, Nat.add_sub_cancel_left]; rfl)
          have q3 : u1.frozen? ⟨g, ys.length * 5 + 3, none⟩ = false := l1.frozenAt (ys.length * 5 + 3)
          have p4 : u1.cell? ⟨g, ys.length * 5 + 4, none⟩ = some (.int .i64 r.gram) := (l1.cellAt (ys.length * 5 + 4) (by omega)).trans (by rw [List.getElem?_append_right (by omega), hcx, Nat.add_sub_cancel_left]; rfl)
          have q4 : u1.frozen? ⟨g, ys.length * 5 + 4, none⟩ = false := l1.frozenAt (ys.length * 5 + 4)
          clear hcx l1
          go_simp
          clear p0 p1 p2 p3 p4 q0 q1 q2 q3 q4 hHeld
          obtain ⟨R, hR⟩ : ∃ R : ShelfW, R = ⟨gA, cA, r.l ++ [(pl : Int)], r.wd + q.wd, mx r.dp q.dp, mx r.ht q.ht, r.gram + q.gram⟩ := ⟨_, rfl⟩
          have hRr : R.row = ⟨gA, cA, r.l ++ [(pl : Int)]⟩ := by rw [hR]; rfl
          have hRc : R.cells = [.slice (some ⟨gA, 0, none⟩) (r.l.length + 1) cA, .int .i64 (r.wd + q.wd), .int .i64 (mx r.dp q.dp), .int .i64 (mx r.ht q.ht), .int .i64 (r.gram + q.gram)] := by rw [hR]; simp [ShelfW.cells]
          have hN := Sv.set (w' := (((((u1.setCell ⟨g, ys.length * 5, none⟩ (.slice (some ⟨gA, 0, none⟩) (r.l.length + 1) cA)).setCell ⟨g, ys.length * 5 + 1, none⟩ (.int .i64 (r.wd + q.wd))).setCell ⟨g, ys.length * 5 + 2, none⟩ (.int .i64 (mx r.dp q.dp))).setCell ⟨g, ys.length * 5 + 3, none⟩ (.int .i64 (mx r.ht q.ht))).setCell ⟨g, ys.length * 5 + 4, none⟩ (.int .i64 (r.gram + q.gram)))) (q := ys.length * 5) HS9.out (by have h1 := HB9.out.size; omega) Bu1.out (R := R) (by rw [hRr]; exact World.ownsRow.mono Qru1.out Bu0z.out) rfl (by rw [hRc, fill5])
          have HNV := hide hN.1
          have HNB : Hid (Below (w.heap.size + 1) W (((((u1.setCell ⟨g, ys.length * 5, none⟩ (.slice (some ⟨gA, 0, none⟩) (r.l.length + 1) cA)).setCell ⟨g, ys.length * 5 + 1, none⟩ (.int .i64 (r.wd + q.wd))).setCell ⟨g, ys.length * 5 + 2, none⟩ (.int .i64 (mx r.dp q.dp))).setCell ⟨g, ys.length * 5 + 3, none⟩ (.int .i64 (mx r.ht q.ht))).setCell ⟨g, ys.length * 5 + 4, none⟩ (.int .i64 (r.gram + q.gram)))) := HB9.out.trans ((Bu1.out.mono (by have h1 := HB9.out.size; omega)).trans hN.2)
          have HRC : Hid (R.car = r.car.add (pl : Int) q) := by rw [hR]; rfl
          clear hN hRr hRc hR
          generalize (((((u1.setCell ⟨g, ys.length * 5, none⟩ (.slice (some ⟨gA, 0, none⟩) (r.l.length + 1) cA)).setCell ⟨g, ys.length * 5 + 1, none⟩ (.int .i64 (r.wd + q.wd))).setCell ⟨g, ys.length * 5 + 2, none⟩ (.int .i64 (mx r.dp q.dp))).setCell ⟨g, ys.length * 5 + 3, none⟩ (.int .i64 (mx r.ht q.ht))).setCell ⟨g, ys.length * 5 + 4, none⟩ (.int .i64 (r.gram + q.gram))) = u2 at *
          refine hK.out _ _ (fun hn => absurd (by decide) hn) ?_
          clear hK K
          try simp only [Act.put, zz1, zz2, zz3, zz4, zz5, zz6]
          refine wpTo_done (by kernel_rfl) ?_ _
          refine NoPanic.normal ?_
          have HM7 : Hid ((ys ++ [R]).map ShelfW.car = shelvesTo p bs ((orderB bs).take (j + 1))) := by rw [Hid, unhide HST, List.map_append, List.map_append, List.map_cons, List.map_nil, List.map_cons, List.map_nil, HSR.out _ _ HRM.out, unhide HRC]
          go_wp2_with fail
          go_roundw
          case rel => exact ⟨j + 1, g, cap, ys ++ [R], by omega, by go_num, by simp, unhide HNV, unhide HM7, unhide HNB⟩
          case measure => simp [intOf]; omega
         exact AllTo.nil
        exact AllTo.nil
     · have hrm : roomS p r.car q = false := by cases e : roomS p r.car q; (rfl); (exact absurd (room_iff.1 e) (fun x => n2 x.2))
       have HNEW : Hid (stepS p bs (xs.map ShelfW.car) pl = xs.map ShelfW.car ++ [ShelfV.zero.add (pl : Int) q]) := by rw [Hid, unhide HXS, List.map_append, List.map_cons, List.map_nil]; exact HSN.out _ _ hrm
       clear hrm
       go_cut [79] (fun v wc => v = .bool false ∧ Below wx.heap.size wx wc)
       case first =>
        have Bwx : Hid (Below wx.heap.size wx wx) := Below.refl _ _
        have hwl : w.heap.size < wx.heap.size := by omega
        have hgx5 : g < wx.heap.size := by omega
        have F0 := hide e0
        have F3 := hide e3
        have X0 := hide x0
        have X3 := hide x3
        have G1 := hide C1
        have G4 := hide C4
        clear e0 e1 e2 e3 x0 x1 x2 x3 C1 C4
        refine wp_region_noPanic ?_
        have Bu0 : Hid (Below wx.heap.size wx wx.drew) := Bwx.out.drew
        obtain ⟨S, hSdef⟩ : ∃ S : World → Prop, S = (fun w' => w'.cell? ⟨wr.heap.size, 0, none⟩ = some (.int .i64 q.wd) ∧ w'.cell? ⟨wr.heap.size, 3, none⟩ = some (.int .i64 q.gram) ∧ w'.cell? ⟨w.heap.size, 0, none⟩ = some (.int .i64 p.wd) ∧ w'.cell? ⟨w.heap.size, 3, none⟩ = some (.int .i64 p.gram) ∧ w'.cell? ⟨g, ys.length * 5 + 1, none⟩ = some (.int .i64 r.wd) ∧ w'.cell? ⟨g, ys.length * 5 + 4, none⟩ = some (.int .i64 r.gram)) := ⟨_, rfl⟩
        have hSmk : ∀ wq, (wq.cell? ⟨wr.heap.size, 0, none⟩ = some (.int .i64 q.wd)) → (wq.cell? ⟨wr.heap.size, 3, none⟩ = some (.int .i64 q.gram)) → (wq.cell? ⟨w.heap.size, 0, none⟩ = some (.int .i64 p.wd)) → (wq.cell? ⟨w.heap.size, 3, none⟩ = some (.int .i64 p.gram)) → (wq.cell? ⟨g, ys.length * 5 + 1, none⟩ = some (.int .i64 r.wd)) → (wq.cell? ⟨g, ys.length * 5 + 4, none⟩ = some (.int .i64 r.gram)) → S wq := fun wq p0 p1 p2 p3 p4 p5 => by rw [hSdef]; exact ⟨p0, p1, p2, p3, p4, p5⟩
        have hSd : ∀ wq, S wq → (fun w' => w'.cell? ⟨wr.heap.size, 0, none⟩ = some (.int .i64 q.wd) ∧ w'.cell? ⟨wr.heap.size, 3, none⟩ = some (.int .i64 q.gram) ∧ w'.cell? ⟨w.heap.size, 0, none⟩ = some (.int .i64 p.wd) ∧ w'.cell? ⟨w.heap.size, 3, none⟩ = some (.int .i64 p.gram) ∧ w'.cell? ⟨g, ys.length * 5 + 1, none⟩ = some (.int .i64 r.wd) ∧ w'.cell? ⟨g, ys.length * 5 + 4, none⟩ = some (.int .i64 r.gram)) wq := fun wq h => by rw [hSdef] at h; exact h
        clear hSdef
        have hHeld : S wx.drew := hSmk wx.drew ((Bu0.out.cell (p := ⟨wr.heap.size, 0, none⟩) hzx0).trans F0.out) ((Bu0.out.cell (p := ⟨wr.heap.size, 3, none⟩) hzx0).trans F3.out) ((Bu0.out.cell (p := ⟨w.heap.size, 0, none⟩) hwl).trans X0.out) ((Bu0.out.cell (p := ⟨w.heap.size, 3, none⟩) hwl).trans X3.out) ((Bu0.out.cell (p := ⟨g, ys.length * 5 + 1, none⟩) hgx5).trans G1.out) ((Bu0.out.cell (p := ⟨g, ys.length * 5 + 4, none⟩) hgx5).trans G4.out)
        refine wp_region_to (S := S) (T := []) (by kernel_rfl) hHeld (fun _ => ?_)
        generalize wx.drew = u0 at *
        refine wpTo_ts (i := 0) (v := ?_) rfl (by kernel_rfl) hSd (by rfl) (fun w hSw => ?_) (by assumption) ?_
        rotate_left
        · ((try dsimp only [RqC] at hSw); go_simp <;> with_reducible rfl)
        refine wpTo_ts (i := 1) (v := ?_) rfl (by kernel_rfl) hSd (by rfl) (fun w hSw => ?_) (by assumption) ?_
        rotate_left
        · ((try dsimp only [RqC] at hSw); go_simp <;> with_reducible rfl)
        refine wpTo_ts (i := 2) (v := ?_) rfl (by kernel_rfl) hSd (by rfl) (fun w hSw => ?_) (by assumption) ?_
        rotate_left
        · ((try dsimp only [RqC] at hSw); go_simp <;> with_reducible rfl)
        try simp only [Act.put, zz1, zz2, zz3, zz4, zz5, zz6]
        refine wpTo_ts (i := 3) (v := ?_) rfl (by kernel_rfl) hSd (by rfl) (fun w hSw => ?_) (by assumption) ?_
        rotate_left
        · ((try dsimp only [RqC] at hSw); go_simp <;> with_reducible rfl)
        refine wpTo_ts (i := 4) (v := ?_) rfl (by kernel_rfl) hSd (by rfl) (fun w hSw => ?_) (by assumption) ?_
        rotate_left
        · ((try dsimp only [RqC] at hSw); go_simp <;> with_reducible rfl)
        refine wpTo_ts (i := 5) (v := ?_) rfl (by kernel_rfl) hSd (by rfl) (fun w hSw => ?_) (by assumption) ?_
        rotate_left
        · ((try dsimp only [RqC] at hSw); go_simp <;> with_reducible rfl)
        try simp only [Act.put, zz1, zz2, zz3, zz4, zz5, zz6]
        rw [wrap_fits (x := (ys.length : Int)) (by omega) (by omega)]
        refine wpTo_ts (i := 6) (v := ?_) rfl (by kernel_rfl) hSd (by rfl) (fun w hSw => ?_) (by assumption) ?_
        rotate_left
        · ((try dsimp only [RqC] at hSw); go_simp <;> with_reducible rfl)
        try simp only [Act.put, zz1, zz2, zz3, zz4, zz5, zz6]
        refine wpTo_ts (i := 7) (v := ?_) rfl (by kernel_rfl) hSd (by rfl) (fun w hSw => ?_) (by assumption) ?_
        rotate_left
        · ((try dsimp only [RqC] at hSw); go_simp <;> with_reducible rfl)
        refine wpTo_ts (i := 8) (v := ?_) rfl (by kernel_rfl) hSd (by rfl) (fun w hSw => ?_) (by assumption) ?_
        rotate_left
        · ((try dsimp only [RqC] at hSw); go_simp <;> with_reducible rfl)
        refine wpTo_ts (i := 9) (v := ?_) rfl (by kernel_rfl) hSd (by rfl) (fun w hSw => ?_) (by assumption) ?_
        rotate_left
        · ((try dsimp only [RqC] at hSw); go_simp <;> with_reducible rfl)
        try simp only [Act.put, zz1, zz2, zz3, zz4, zz5, zz6]
        refine wpTo_ts (i := 10) (v := ?_) rfl (by kernel_rfl) hSd (by rfl) (fun w hSw => ?_) (by assumption) ?_
        rotate_left
        · ((try dsimp only [RqC] at hSw); go_simp <;> with_reducible rfl)
        refine wpTo_ts (i := 11) (v := ?_) rfl (by kernel_rfl) hSd (by rfl) (fun w hSw => ?_) (by assumption) ?_
        rotate_left
        · ((try dsimp only [RqC] at hSw); go_simp <;> with_reducible rfl)
        try simp only [Act.put, zz1, zz2, zz3, zz4, zz5, zz6]
        try rw [wrap_fits (x := r.wd + q.wd) (by omega) (by omega)]
        refine wpTo_ts (i := 12) (v := ?_) rfl (by kernel_rfl) hSd (by rfl) (fun w hSw => ?_) (by assumption) ?_
        rotate_left
        · ((try dsimp only [RqC] at hSw); go_simp <;> with_reducible rfl)
        refine wpTo_ts (i := 13) (v := ?_) rfl (by kernel_rfl) hSd (by rfl) (fun w hSw => ?_) (by assumption) ?_
        rotate_left
        · ((try dsimp only [RqC] at hSw); go_simp <;> with_reducible rfl)
        try simp only [Act.put, zz1, zz2, zz3, zz4, zz5, zz6]
        refine wpTo_ts (i := 14) (v := ?_) rfl (by kernel_rfl) hSd (by rfl) (fun w hSw => ?_) (by assumption) ?_
        rotate_left
        · ((try dsimp only [RqC] at hSw); go_simp <;> with_reducible rfl)
        try simp only [Act.put, zz1, zz2, zz3, zz4, zz5, zz6]
        try rw [show decide (r.wd + q.wd ≤ p.wd) = true from decide_eq_true n1]
        refine wpTo_ts (i := 15) (v := ?_) rfl (by kernel_rfl) hSd (by rfl) (fun w hSw => ?_) (by assumption) ?_
        rotate_left
        · ((try dsimp only [RqC] at hSw); go_simp <;> with_reducible rfl)
        refine wpTo_ts (i := 16) (v := ?_) rfl (by kernel_rfl) hSd (by rfl) (fun w hSw => ?_) (by assumption) ?_
        rotate_left
        · ((try dsimp only [RqC] at hSw); go_simp <;> with_reducible rfl)
        refine wpTo_ts (i := 17) (v := ?_) rfl (by kernel_rfl) hSd (by rfl) (fun w hSw => ?_) (by assumption) ?_
        rotate_left
        · ((try dsimp only [RqC] at hSw); go_simp <;> with_reducible rfl)
        try simp only [Act.put, zz1, zz2, zz3, zz4, zz5, zz6]
        refine wpTo_ts (i := 18) (v := ?_) rfl (by kernel_rfl) hSd (by rfl) (fun w hSw => ?_) (by assumption) ?_
        rotate_left
        · ((try dsimp only [RqC] at hSw); go_simp <;> with_reducible rfl)
        refine wpTo_ts (i := 19) (v := ?_) rfl (by kernel_rfl) hSd (by rfl) (fun w hSw => ?_) (by assumption) ?_
        rotate_left
        · ((try dsimp only [RqC] at hSw); go_simp <;> with_reducible rfl)
        try simp only [Act.put, zz1, zz2, zz3, zz4, zz5, zz6]
        rw [wrap_fits (x := (ys.length : Int)) (by omega) (by omega)]
        refine wpTo_ts (i := 20) (v := ?_) rfl (by kernel_rfl) hSd (by rfl) (fun w hSw => ?_) (by assumption) ?_
        rotate_left
        · ((try dsimp only [RqC] at hSw); go_simp <;> with_reducible rfl)
        refine wpTo_ts (i := 21) (v := ?_) rfl (by kernel_rfl) hSd (by rfl) (fun w hSw => ?_) (by assumption) ?_
        rotate_left
        · ((try dsimp only [RqC] at hSw); go_simp <;> with_reducible rfl)
        try simp only [Act.put, zz1, zz2, zz3, zz4, zz5, zz6]
        refine wpTo_ts (i := 22) (v := ?_) rfl (by kernel_rfl) hSd (by rfl) (fun w hSw => ?_) (by assumption) ?_
        rotate_left
        · ((try dsimp only [RqC] at hSw); go_simp <;> with_reducible rfl)
        refine wpTo_ts (i := 23) (v := ?_) rfl (by kernel_rfl) hSd (by rfl) (fun w hSw => ?_) (by assumption) ?_
        rotate_left
        · ((try dsimp only [RqC] at hSw); go_simp <;> with_reducible rfl)
        refine wpTo_ts (i := 24) (v := ?_) rfl (by kernel_rfl) hSd (by rfl) (fun w hSw => ?_) (by assumption) ?_
        rotate_left
        · ((try dsimp only [RqC] at hSw); go_simp <;> with_reducible rfl)
        try simp only [Act.put, zz1, zz2, zz3, zz4, zz5, zz6]
        refine wpTo_ts (i := 25) (v := ?_) rfl (by kernel_rfl) hSd (by rfl) (fun w hSw => ?_) (by assumption) ?_
        rotate_left
        · ((try dsimp only [RqC] at hSw); go_simp <;> with_reducible rfl)
        try simp only [Act.put, zz1, zz2, zz3, zz4, zz5, zz6]
        try rw [wrap_fits (x := r.gram + q.gram) (by omega) (by omega)]
        refine wpTo_ts (i := 26) (v := ?_) rfl (by kernel_rfl) hSd (by rfl) (fun w hSw => ?_) (by assumption) ?_
        rotate_left
        · ((try dsimp only [RqC] at hSw); go_simp <;> with_reducible rfl)
        refine wpTo_ts (i := 27) (v := ?_) rfl (by kernel_rfl) hSd (by rfl) (fun w hSw => ?_) (by assumption) ?_
        rotate_left
        · ((try dsimp only [RqC] at hSw); go_simp <;> with_reducible rfl)
        refine wpTo_ts (i := 28) (v := ?_) rfl (by kernel_rfl) hSd (by rfl) (fun w hSw => ?_) (by assumption) ?_
        rotate_left
        · ((try dsimp only [RqC] at hSw); go_simp <;> with_reducible rfl)
        try simp only [Act.put, zz1, zz2, zz3, zz4, zz5, zz6]
        try rw [show decide (r.gram + q.gram ≤ p.gram) = false from decide_eq_false n2]
        refine wpTo_ts (i := 29) (v := ?_) rfl (by kernel_rfl) hSd (by rfl) (fun w hSw => ?_) (by assumption) ?_
        rotate_left
        · ((try dsimp only [RqC] at hSw); go_simp <;> with_reducible rfl)
        try simp only [Act.put, zz1, zz2, zz3, zz4, zz5, zz6]
        refine wpTo_done (by kernel_rfl) ?_ _
        refine NoPanic.normal ?_
        go_wp2_with fail
        go_meet
        case rel => exact ⟨rfl, unhide Bu0⟩
       case rest =>
        clear C1 C4
        obtain ⟨rfl, hb9⟩ := hcut
        have hz9 := hb9.size
        have hwz := HBX0.out.size
        have HS9 := hide (HSX.out.later hb9)
        have HB9 := hide (HBX8.out.trans (hb9.mono (by omega)))
        have Bwc : Hid (Below wc.heap.size wc wc) := Below.refl _ _
        have hXl : wr.heap.size < wc.heap.size := by omega
        have hgOl : gO < wc.heap.size := by omega
        have CO := hide ((hb9.cell (p := ⟨gO, j, none⟩) hgx).trans cOx)
        have D0 := hide ((hb9.cell (p := ⟨wr.heap.size, 0, none⟩) hzx0).trans e0)
        have D1 := hide ((hb9.cell (p := ⟨wr.heap.size, 1, none⟩) hzx0).trans e1)
        have D2 := hide ((hb9.cell (p := ⟨wr.heap.size, 2, none⟩) hzx0).trans e2)
        have D3 := hide ((hb9.cell (p := ⟨wr.heap.size, 3, none⟩) hzx0).trans e3)
        clear hb9 e0 e1 e2 e3 x0 x1 x2 x3 cOx
        go_upto_region 17 with fail
        refine wp_region_noPanic ?_
        have Bu0 : Hid (Below wc.heap.size wc wc.drew) := Bwc.out.drew
        obtain ⟨S, hSdef⟩ : ∃ S : World → Prop, S = (fun w' => w'.cell? ⟨wr.heap.size, 0, none⟩ = some (.int .i64 q.wd) ∧ w'.cell? ⟨wr.heap.size, 1, none⟩ = some (.int .i64 q.dp) ∧ w'.cell? ⟨wr.heap.size, 2, none⟩ = some (.int .i64 q.ht) ∧ w'.cell? ⟨wr.heap.size, 3, none⟩ = some (.int .i64 q.gram) ∧ w'.cell? ⟨gO, j, none⟩ = some (.int .i64 (pl : Int))) := ⟨_, rfl⟩
        have hSmk : ∀ wq, (wq.cell? ⟨wr.heap.size, 0, none⟩ = some (.int .i64 q.wd)) → (wq.cell? ⟨wr.heap.size, 1, none⟩ = some (.int .i64 q.dp)) → (wq.cell? ⟨wr.heap.size, 2, none⟩ = some (.int .i64 q.ht)) → (wq.cell? ⟨wr.heap.size, 3, none⟩ = some (.int .i64 q.gram)) → (wq.cell? ⟨gO, j, none⟩ = some (.int .i64 (pl : Int))) → S wq := fun wq p0 p1 p2 p3 p4 => by rw [hSdef]; exact ⟨p0, p1, p2, p3, p4⟩
        have hSd : ∀ wq, S wq → (fun w' => w'.cell? ⟨wr.heap.size, 0, none⟩ = some (.int .i64 q.wd) ∧ w'.cell? ⟨wr.heap.size, 1, none⟩ = some (.int .i64 q.dp) ∧ w'.cell? ⟨wr.heap.size, 2, none⟩ = some (.int .i64 q.ht) ∧ w'.cell? ⟨wr.heap.size, 3, none⟩ = some (.int .i64 q.gram) ∧ w'.cell? ⟨gO, j, none⟩ = some (.int .i64 (pl : Int))) wq := fun wq h => by rw [hSdef] at h; exact h
        clear hSdef
        have hHeld : S wc.drew := hSmk wc.drew ((Bu0.out.cell (p := ⟨wr.heap.size, 0, none⟩) hXl).trans D0.out) ((Bu0.out.cell (p := ⟨wr.heap.size, 1, none⟩) hXl).trans D1.out) ((Bu0.out.cell (p := ⟨wr.heap.size, 2, none⟩) hXl).trans D2.out) ((Bu0.out.cell (p := ⟨wr.heap.size, 3, none⟩) hXl).trans D3.out) ((Bu0.out.cell (p := ⟨gO, j, none⟩) hgOl).trans CO.out)
        refine wp_region_to (S := S) (T := [9, 10]) (by kernel_rfl) hHeld (fun _ => ?_)
        generalize wc.drew = u0 at *
        have Bu0z : Hid (wc.heap.size ≤ u0.heap.size) := Bu0.out.size
        refine wpTo_ts (i := 0) (v := ?_) rfl (by kernel_rfl) hSd (by rfl) (fun w hSw => ?_) (by assumption) ?_
        rotate_left
        · ((try dsimp only [RqC] at hSw); go_simp <;> with_reducible rfl)
        try simp only [Act.put, zz1, zz2, zz3, zz4, zz5, zz6]
        refine wpTo_ts (i := 1) (v := ?_) rfl (by kernel_rfl) hSd (by rfl) (fun w hSw => ?_) (by assumption) ?_
        rotate_left
        · ((try dsimp only [RqC] at hSw); go_simp <;> with_reducible rfl)
        refine wpTo_ts (i := 2) (v := ?_) rfl (by kernel_rfl) hSd (by rfl) (fun w hSw => ?_) (by assumption) ?_
        rotate_left
        · ((try dsimp only [RqC] at hSw); go_simp <;> with_reducible rfl)
        refine wpTo_ts (i := 3) (v := ?_) rfl (by kernel_rfl) hSd (by rfl) (fun w hSw => ?_) (by assumption) ?_
        rotate_left
        · ((try dsimp only [RqC] at hSw); go_simp <;> with_reducible rfl)
        try simp only [Act.put, zz1, zz2, zz3, zz4, zz5, zz6]
        refine wpTo_ts (i := 4) (v := ?_) rfl (by kernel_rfl) hSd (by rfl) (fun w hSw => ?_) (by assumption) ?_
        rotate_left
        · ((try dsimp only [RqC] at hSw); go_simp <;> with_reducible rfl)
        refine wpTo_ts (i := 5) (v := ?_) rfl (by kernel_rfl) hSd (by rfl) (fun w hSw => ?_) (by assumption) ?_
        rotate_left
        · ((try dsimp only [RqC] at hSw); go_simp <;> with_reducible rfl)
        refine wpTo_ts (i := 6) (v := ?_) rfl (by kernel_rfl) hSd (by rfl) (fun w hSw => ?_) (by assumption) ?_
        rotate_left
        · ((try dsimp only [RqC] at hSw); go_simp <;> with_reducible rfl)
        try simp only [Act.put, zz1, zz2, zz3, zz4, zz5, zz6]
        refine wpTo_ready (rs := [7]) (by kernel_rfl) (by simp) ?_
        refine AllTo.cons (o := _) rfl (fun K hK => ?_) ?_
        ·
         (try simp only [zz1, zz2, zz3])
         go_simp
         refine (l10Add_zero (pl : Int) 0 0 0 0 q.wd q.dp q.ht q.gram u0 (by omega) (by omega) (by omega) (by omega) (by omega) (by omega) (by omega) (by omega)).mono ?_
         rintro e u1 ⟨gA, cA, rfl, hoA, hb⟩
         have Bu1 := hide (Bu0.out.trans (hb.mono Bu0.out.size))
         have Qru1 : Hid (RowV.own u1 u0.heap.size ⟨gA, cA, [] ++ [(pl : Int)]⟩) := hoA
         clear hoA
         clear hb
         clear Bu0 
         clear hHeld
         go_wp2_with fail
         have hHeld := hSmk u1 ((Bu1.out.cell (p := ⟨wr.heap.size, 0, none⟩) hXl).trans D0.out) ((Bu1.out.cell (p := ⟨wr.heap.size, 1, none⟩) hXl).trans D1.out) ((Bu1.out.cell (p := ⟨wr.heap.size, 2, none⟩) hXl).trans D2.out) ((Bu1.out.cell (p := ⟨wr.heap.size, 3, none⟩) hXl).trans D3.out) ((Bu1.out.cell (p := ⟨gO, j, none⟩) hgOl).trans CO.out)
         refine hK.out _ _ (fun _ => hHeld) ?_
         clear hK K
         try simp only [Act.put, zz1, zz2, zz3, zz4, zz5, zz6]
         refine wpTo_ready (rs := [8]) (by kernel_rfl) (by simp) ?_
         refine AllTo.cons (o := _) rfl (fun K hK => ?_) ?_
         ·
          (try simp only [zz1, zz2, zz3])
          go_simp
          clear hHeld
          generalize hW : (u1.alloc (.cells #[.slice (some ⟨gA, 0, none⟩) 1 cA, .int .i64 q.wd, .int .i64 (mx 0 q.dp), .int .i64 (mx 0 q.ht), .int .i64 q.gram] 51)) = u2 at *
          obtain ⟨hb, Klu2, Zlu2⟩ := en1 hW
          have hb := unhide hb
          have Bu2 := hide (Bu1.out.trans (hb.mono Bu1.out.size))
          have Gl : wc.heap.size ≤ u1.heap.size := Bu1.out.size
          have Qru2 : Hid (RowV.own u2 u0.heap.size ⟨gA, cA, [] ++ [(pl : Int)]⟩) := RowV.own.later Qru1.out hb
          clear hb hW
          clear Bu1 Qru1
          have hHeld := hSmk u2 ((Bu2.out.cell (p := ⟨wr.heap.size, 0, none⟩) hXl).trans D0.out) ((Bu2.out.cell (p := ⟨wr.heap.size, 1, none⟩) hXl).trans D1.out) ((Bu2.out.cell (p := ⟨wr.heap.size, 2, none⟩) hXl).trans D2.out) ((Bu2.out.cell (p := ⟨wr.heap.size, 3, none⟩) hXl).trans D3.out) ((Bu2.out.cell (p := ⟨gO, j, none⟩) hgOl).trans CO.out)
          refine hK.out _ _ (fun _ => hHeld) ?_
          clear hK K
          try simp only [Act.put, zz1, zz2, zz3, zz4, zz5, zz6]
          refine wpTo_ready (rs := [9]) (by kernel_rfl) (by simp) ?_
          refine AllTo.cons (o := _) rfl (fun K hK => ?_) ?_
          ·
           skip
           have HOLD : Hid (u2.ownsRow (w.heap.size + 1) 51 5 (.slice (some ⟨g, 0, none⟩) (ys.length + 1) cap) (ys.length + 1) (cellsShelf xs)) := by have h := (HS9.out.later Bu2.out).own.out; rw [unhide HLEN] at h; exact h
           have hBz : (w.heap.size + 1) ≤ u2.heap.size := by have h1 := HB9.out.size; have h2 := Bu2.out.size; omega
           refine step_append_some _ (by rfl) _ _ 36 (by rfl) (w.heap.size + 1) 51 i0 (.agg #[.slice none 0 0, .int .i64 0, .int .i64 0, .int .i64 0, .int .i64 0]) 5 56 Try.underlying36 hi hz0 hz1 hz2 rfl (by omega) (.slice (some ⟨g, 0, none⟩) (ys.length + 1) cap) ((ys.length + 1)) (cellsShelf xs) (by rfl) HOLD.out (by simp) ⟨u1.heap.size, 0, none⟩ 1 1 [.slice (some ⟨gA, 0, none⟩) 1 cA, .int .i64 q.wd, .int .i64 (mx 0 q.dp), .int .i64 (mx 0 q.ht), .int .i64 q.gram] (by rfl) rfl (Klu2.out.news) (by simp [Value.oneCell']) (by unfold maxLen; omega) (by omega) hBz ?_
           intro g3 cap3 u3 ho6 hg6 hat6 hlt6
           obtain ⟨R, hR⟩ : ∃ R : ShelfW, R = ⟨gA, cA, [] ++ [(pl : Int)], q.wd, mx 0 q.dp, mx 0 q.ht, q.gram⟩ := ⟨_, rfl⟩
           have hRr : R.row = ⟨gA, cA, [] ++ [(pl : Int)]⟩ := by rw [hR]; rfl
           have hRc : R.cells = [.slice (some ⟨gA, 0, none⟩) 1 cA, .int .i64 q.wd, .int .i64 (mx 0 q.dp), .int .i64 (mx 0 q.ht), .int .i64 q.gram] := by rw [hR]; rfl
           have HNV := hide (Sv.more HS9.out (by have h1 := HB9.out.size; omega) Bu2.out (R := R) (by rw [hRr]; exact World.ownsRow.mono Qru2.out Bu0z.out) (by rw [hRc, unhide HLEN]; exact ho6) hg6 (hat6.imp (fun e => by simpa [Value.ownBlock] using e) (fun e => e)))
           have HNB : Hid (Below (w.heap.size + 1) W u3) := HB9.out.trans (((Bu2.out.mono (by have h1 := HB9.out.size; omega))).grown hg6 hBz (fun b hb => by have := own_base HOLD.out; simp [Value.ownBlock] at hb; omega))
           have HRC : Hid (R.car = ShelfV.zero.add (pl : Int) q) := by rw [hR]; simp [Hid, ShelfW.car, ShelfV.add, ShelfV.zero]
           clear ho6 hg6 hat6 hlt6 hHeld
           refine hK.out _ _ (fun hn => absurd (by decide) hn) ?_
           clear hK K
           try simp only [Act.put, zz1, zz2, zz3, zz4, zz5, zz6]
           refine wpTo_ready (rs := [10]) (by kernel_rfl) (by simp) ?_
           refine AllTo.cons (o := _) rfl (fun K hK => ?_) ?_
           ·
            (try simp only [zz1, zz2, zz3])
            go_simp
            refine hK.out _ _ (fun hn => absurd (by decide) hn) ?_
            clear hK K
            try simp only [Act.put, zz1, zz2, zz3, zz4, zz5, zz6]
            refine wpTo_done (by kernel_rfl) ?_ _
            refine NoPanic.normal ?_
            have HM7 : Hid ((xs ++ [R]).map ShelfW.car = shelvesTo p bs ((orderB bs).take (j + 1))) := by rw [Hid, unhide HST, unhide HNEW, List.map_append]; simp [unhide HRC]
            go_wp2_with fail
            go_roundw
            case rel => exact ⟨j + 1, g3, cap3, xs ++ [R], by omega, by go_num, by rw [List.length_append, unhide HLEN]; rfl, unhide HNV, unhide HM7, unhide HNB⟩
            case measure => simp [intOf]; omega
           exact AllTo.nil
          exact AllTo.nil
         exact AllTo.nil
        exact AllTo.nil
     · have hrm : roomS p r.car q = false := by cases e : roomS p r.car q; (rfl); (exact absurd (room_iff.1 e) (fun x => n1 x.1))
       have HNEW : Hid (stepS p bs (xs.map ShelfW.car) pl = xs.map ShelfW.car ++ [ShelfV.zero.add (pl : Int) q]) := by rw [Hid, unhide HXS, List.map_append, List.map_cons, List.map_nil]; exact HSN.out _ _ hrm
       clear hrm
       go_cut [79] (fun v wc => v = .bool false ∧ Below wx.heap.size wx wc)
       case first =>
        have Bwx : Hid (Below wx.heap.size wx wx) := Below.refl _ _
        have hwl : w.heap.size < wx.heap.size := by omega
        have hgx5 : g < wx.heap.size := by omega
        have F0 := hide e0
        have F3 := hide e3
        have X0 := hide x0
        have X3 := hide x3
        have G1 := hide C1
        have G4 := hide C4
        clear e0 e1 e2 e3 x0 x1 x2 x3 C1 C4
        refine wp_region_noPanic ?_
        have Bu0 : Hid (Below wx.heap.size wx wx.drew) := Bwx.out.drew
        obtain ⟨S, hSdef⟩ : ∃ S : World → Prop, S = (fun w' => w'.cell? ⟨wr.heap.size, 0, none⟩ = some (.int .i64 q.wd) ∧ w'.cell? ⟨wr.heap.size, 3, none⟩ = some (.int .i64 q.gram) ∧ w'.cell? ⟨w.heap.size, 0, none⟩ = some (.int .i64 p.wd) ∧ w'.cell? ⟨w.heap.size, 3, none⟩ = some (.int .i64 p.gram) ∧ w'.cell? ⟨g, ys.length * 5 + 1, none⟩ = some (.int .i64 r.wd) ∧ w'.cell? ⟨g, ys.length * 5 + 4, none⟩ = some (.int .i64 r.gram)) := ⟨_, rfl⟩
        have hSmk : ∀ wq, (wq.cell? ⟨wr.heap.size, 0, none⟩ = some (.int .i64 q.wd)) → (wq.cell? ⟨wr.heap.size, 3, none⟩ = some (.int .i64 q.gram)) → (wq.cell? ⟨w.heap.size, 0, none⟩ = some (.int .i64 p.wd)) → (wq.cell? ⟨w.heap.size, 3, none⟩ = some (.int .i64 p.gram)) → (wq.cell? ⟨g, ys.length * 5 + 1, none⟩ = some (.int .i64 r.wd)) → (wq.cell? ⟨g, ys.length * 5 + 4, none⟩ = some (.int .i64 r.gram)) → S wq := fun wq p0 p1 p2 p3 p4 p5 => by rw [hSdef]; exact ⟨p0, p1, p2, p3, p4, p5⟩
        have hSd : ∀ wq, S wq → (fun w' => w'.cell? ⟨wr.heap.size, 0, none⟩ = some (.int .i64 q.wd) ∧ w'.cell? ⟨wr.heap.size, 3, none⟩ = some (.int .i64 q.gram) ∧ w'.cell? ⟨w.heap.size, 0, none⟩ = some (.int .i64 p.wd) ∧ w'.cell? ⟨w.heap.size, 3, none⟩ = some (.int .i64 p.gram) ∧ w'.cell? ⟨g, ys.length * 5 + 1, none⟩ = some (.int .i64 r.wd) ∧ w'.cell? ⟨g, ys.length * 5 + 4, none⟩ = some (.int .i64 r.gram)) wq := fun wq h => by rw [hSdef] at h; exact h
        clear hSdef
        have hHeld : S wx.drew := hSmk wx.drew ((Bu0.out.cell (p := ⟨wr.heap.size, 0, none⟩) hzx0).trans F0.out) ((Bu0.out.cell (p := ⟨wr.heap.size, 3, none⟩) hzx0).trans F3.out) ((Bu0.out.cell (p := ⟨w.heap.size, 0, none⟩) hwl).trans X0.out) ((Bu0.out.cell (p := ⟨w.heap.size, 3, none⟩) hwl).trans X3.out) ((Bu0.out.cell (p := ⟨g, ys.length * 5 + 1, none⟩) hgx5).trans G1.out) ((Bu0.out.cell (p := ⟨g, ys.length * 5 + 4, none⟩) hgx5).trans G4.out)
        refine wp_region_to (S := S) (T := []) (by kernel_rfl) hHeld (fun _ => ?_)
        generalize wx.drew = u0 at *
        refine wpTo_ts (i := 0) (v := ?_) rfl (by kernel_rfl) hSd (by rfl) (fun w hSw => ?_) (by assumption) ?_
        rotate_left
        · ((try dsimp only [RqC] at hSw); go_simp <;> with_reducible rfl)
        try simp only [Act.put, zz1, zz2, zz3, zz4, zz5, zz6]
        refine wpTo_ts (i := 1) (v := ?_) rfl (by kernel_rfl) hSd (by rfl) (fun w hSw => ?_) (by assumption) ?_
        rotate_left
        · ((try dsimp only [RqC] at hSw); go_simp <;> with_reducible rfl)
        refine wpTo_ts (i := 2) (v := ?_) rfl (by kernel_rfl) hSd (by rfl) (fun w hSw => ?_) (by assumption) ?_
        rotate_left
        · ((try dsimp only [RqC] at hSw); go_simp <;> with_reducible rfl)
        refine wpTo_ts (i := 3) (v := ?_) rfl (by kernel_rfl) hSd (by rfl) (fun w hSw => ?_) (by assumption) ?_
        rotate_left
        · ((try dsimp only [RqC] at hSw); go_simp <;> with_reducible rfl)
        try simp only [Act.put, zz1, zz2, zz3, zz4, zz5, zz6]
        refine wpTo_ts (i := 4) (v := ?_) rfl (by kernel_rfl) hSd (by rfl) (fun w hSw => ?_) (by assumption) ?_
        rotate_left
        · ((try dsimp only [RqC] at hSw); go_simp <;> with_reducible rfl)
        refine wpTo_ts (i := 5) (v := ?_) rfl (by kernel_rfl) hSd (by rfl) (fun w hSw => ?_) (by assumption) ?_
        rotate_left
        · ((try dsimp only [RqC] at hSw); go_simp <;> with_reducible rfl)
        try simp only [Act.put, zz1, zz2, zz3, zz4, zz5, zz6]
        rw [wrap_fits (x := (ys.length : Int)) (by omega) (by omega)]
        refine wpTo_ts (i := 6) (v := ?_) rfl (by kernel_rfl) hSd (by rfl) (fun w hSw => ?_) (by assumption) ?_
        rotate_left
        · ((try dsimp only [RqC] at hSw); go_simp <;> with_reducible rfl)
        refine wpTo_ts (i := 7) (v := ?_) rfl (by kernel_rfl) hSd (by rfl) (fun w hSw => ?_) (by assumption) ?_
        rotate_left
        · ((try dsimp only [RqC] at hSw); go_simp <;> with_reducible rfl)
        try simp only [Act.put, zz1, zz2, zz3, zz4, zz5, zz6]
        refine wpTo_ts (i := 8) (v := ?_) rfl (by kernel_rfl) hSd (by rfl) (fun w hSw => ?_) (by assumption) ?_
        rotate_left
        · ((try dsimp only [RqC] at hSw); go_simp <;> with_reducible rfl)
        refine wpTo_ts (i := 9) (v := ?_) rfl (by kernel_rfl) hSd (by rfl) (fun w hSw => ?_) (by assumption) ?_
        rotate_left
        · ((try dsimp only [RqC] at hSw); go_simp <;> with_reducible rfl)
        refine wpTo_ts (i := 10) (v := ?_) rfl (by kernel_rfl) hSd (by rfl) (fun w hSw => ?_) (by assumption) ?_
        rotate_left
        · ((try dsimp only [RqC] at hSw); go_simp <;> with_reducible rfl)
        try simp only [Act.put, zz1, zz2, zz3, zz4, zz5, zz6]
        refine wpTo_ts (i := 11) (v := ?_) rfl (by kernel_rfl) hSd (by rfl) (fun w hSw => ?_) (by assumption) ?_
        rotate_left
        · ((try dsimp only [RqC] at hSw); go_simp <;> with_reducible rfl)
        try simp only [Act.put, zz1, zz2, zz3, zz4, zz5, zz6]
        try rw [wrap_fits (x := r.wd + q.wd) (by omega) (by omega)]
        refine wpTo_ts (i := 12) (v := ?_) rfl (by kernel_rfl) hSd (by rfl) (fun w hSw => ?_) (by assumption) ?_
        rotate_left
        · ((try dsimp only [RqC] at hSw); go_simp <;> with_reducible rfl)
        refine wpTo_ts (i := 13) (v := ?_) rfl (by kernel_rfl) hSd (by rfl) (fun w hSw => ?_) (by assumption) ?_
        rotate_left
        · ((try dsimp only [RqC] at hSw); go_simp <;> with_reducible rfl)
        refine wpTo_ts (i := 14) (v := ?_) rfl (by kernel_rfl) hSd (by rfl) (fun w hSw => ?_) (by assumption) ?_
        rotate_left
        · ((try dsimp only [RqC] at hSw); go_simp <;> with_reducible rfl)
        try simp only [Act.put, zz1, zz2, zz3, zz4, zz5, zz6]
        try rw [show decide (r.wd + q.wd ≤ p.wd) = false from decide_eq_false n1]
        refine wpTo_ts (i := 15) (v := ?_) rfl (by kernel_rfl) hSd (by rfl) (fun w hSw => ?_) (by assumption) ?_
        rotate_left
        · ((try dsimp only [RqC] at hSw); go_simp <;> with_reducible rfl)
        try simp only [Act.put, zz1, zz2, zz3, zz4, zz5, zz6]
        refine wpTo_ts (i := 16) (v := ?_) rfl (by kernel_rfl) hSd (by rfl) (fun w hSw => ?_) (by assumption) ?_
        rotate_left
        · ((try dsimp only [RqC] at hSw); go_simp <;> with_reducible rfl)
        try simp only [Act.put, zz1, zz2, zz3, zz4, zz5, zz6]
        refine wpTo_tk (i := 17) (v := undef) rfl (by kernel_rfl) (Or.inr ⟨by rfl, rfl⟩) (by assumption) ?_
        try simp only [Act.put, zz1, zz2, zz3, zz4, zz5, zz6]
        refine wpTo_tk (i := 18) (v := undef) rfl (by kernel_rfl) (Or.inr ⟨by rfl, rfl⟩) (by assumption) ?_
        try simp only [Act.put, zz1, zz2, zz3, zz4, zz5, zz6]
        refine wpTo_tk (i := 19) (v := undef) rfl (by kernel_rfl) (Or.inr ⟨by rfl, rfl⟩) (by assumption) ?_
        try simp only [Act.put, zz1, zz2, zz3, zz4, zz5, zz6]
        refine wpTo_tk (i := 20) (v := undef) rfl (by kernel_rfl) (Or.inr ⟨by rfl, rfl⟩) (by assumption) ?_
        try simp only [Act.put, zz1, zz2, zz3, zz4, zz5, zz6]
        refine wpTo_tk (i := 21) (v := undef) rfl (by kernel_rfl) (Or.inr ⟨by rfl, rfl⟩) (by assumption) ?_
        try simp only [Act.put, zz1, zz2, zz3, zz4, zz5, zz6]
        refine wpTo_tk (i := 22) (v := undef) rfl (by kernel_rfl) (Or.inr ⟨by rfl, rfl⟩) (by assumption) ?_
        try simp only [Act.put, zz1, zz2, zz3, zz4, zz5, zz6]
        refine wpTo_tk (i := 23) (v := undef) rfl (by kernel_rfl) (Or.inr ⟨by rfl, rfl⟩) (by assumption) ?_
        try simp only [Act.put, zz1, zz2, zz3, zz4, zz5, zz6]
        refine wpTo_tk (i := 24) (v := undef) rfl (by kernel_rfl) (Or.inr ⟨by rfl, rfl⟩) (by assumption) ?_
        try simp only [Act.put, zz1, zz2, zz3, zz4, zz5, zz6]
        refine wpTo_tk (i := 25) (v := undef) rfl (by kernel_rfl) (Or.inr ⟨by rfl, rfl⟩) (by assumption) ?_
        try simp only [Act.put, zz1, zz2, zz3, zz4, zz5, zz6]
        refine wpTo_tk (i := 26) (v := undef) rfl (by kernel_rfl) (Or.inr ⟨by rfl, rfl⟩) (by assumption) ?_
        try simp only [Act.put, zz1, zz2, zz3, zz4, zz5, zz6]
        refine wpTo_tk (i := 27) (v := undef) rfl (by kernel_rfl) (Or.inr ⟨by rfl, rfl⟩) (by assumption) ?_
        try simp only [Act.put, zz1, zz2, zz3, zz4, zz5, zz6]
        refine wpTo_tk (i := 28) (v := undef) rfl (by kernel_rfl) (Or.inr ⟨by rfl, rfl⟩) (by assumption) ?_
        try simp only [Act.put, zz1, zz2, zz3, zz4, zz5, zz6]
        refine wpTo_ts (i := 29) (v := ?_) rfl (by kernel_rfl) hSd (by rfl) (fun w hSw => ?_) (by assumption) ?_
        rotate_left
        · ((try dsimp only [RqC] at hSw); go_simp <;> with_reducible rfl)
        try simp only [Act.put, zz1, zz2, zz3, zz4, zz5, zz6]
        refine wpTo_done (by kernel_rfl) ?_ _
        refine NoPanic.normal ?_
        go_wp2_with fail
        go_meet
        case rel => exact ⟨rfl, unhide Bu0⟩
       case rest =>
        clear C1 C4
        obtain ⟨rfl, hb9⟩ := hcut
        have hz9 := hb9.size
        have hwz := HBX0.out.size
        have HS9 := hide (HSX.out.later hb9)
        have HB9 := hide (HBX8.out.trans (hb9.mono (by omega)))
        have Bwc : Hid (Below wc.heap.size wc wc) := Below.refl _ _
        have hXl : wr.heap.size < wc.heap.size := by omega
        have hgOl : gO < wc.heap.size := by omega
        have CO := hide ((hb9.cell (p := ⟨gO, j, none⟩) hgx).trans cOx)
        have D0 := hide ((hb9.cell (p := ⟨wr.heap.size, 0, none⟩) hzx0).trans e0)
        have D1 := hide ((hb9.cell (p := ⟨wr.heap.size, 1, none⟩) hzx0).trans e1)
        have D2 := hide ((hb9.cell (p := ⟨wr.heap.size, 2, none⟩) hzx0).trans e2)
        have D3 := hide ((hb9.cell (p := ⟨wr.heap.size, 3, none⟩) hzx0).trans e3)
        clear hb9 e0 e1 e2 e3 x0 x1 x2 x3 cOx
        go_upto_region 17 with fail
        refine wp_region_noPanic ?_
        have Bu0 : Hid (Below wc.heap.size wc wc.drew) := Bwc.out.drew
        obtain ⟨S, hSdef⟩ : ∃ S : World → Prop, S = (fun w' => w'.cell? ⟨wr.heap.size, 0, none⟩ = some (.int .i64 q.wd) ∧ w'.cell? ⟨wr.heap.size, 1, none⟩ = some (.int .i64 q.dp) ∧ w'.cell? ⟨wr.heap.size, 2, none⟩ = some (.int .i64 q.ht) ∧ w'.cell? ⟨wr.heap.size, 3, none⟩ = some (.int .i64 q.gram) ∧ w'.cell? ⟨gO, j, none⟩ = some (.int .i64 (pl : Int))) := ⟨_, rfl⟩
        have hSmk : ∀ wq, (wq.cell? ⟨wr.heap.size, 0, none⟩ = some (.int .i64 q.wd)) → (wq.cell? ⟨wr.heap.size, 1, none⟩ = some (.int .i64 q.dp)) → (wq.cell? ⟨wr.heap.size, 2, none⟩ = some (.int .i64 q.ht)) → (wq.cell? ⟨wr.heap.size, 3, none⟩ = some (.int .i64 q.gram)) → (wq.cell? ⟨gO, j, none⟩ = some (.int .i64 (pl : Int))) → S wq := fun wq p0 p1 p2 p3 p4 => by rw [hSdef]; exact ⟨p0, p1, p2, p3, p4⟩
        have hSd : ∀ wq, S wq → (fun w' => w'.cell? ⟨wr.heap.size, 0, none⟩ = some (.int .i64 q.wd) ∧ w'.cell? ⟨wr.heap.size, 1, none⟩ = some (.int .i64 q.dp) ∧ w'.cell? ⟨wr.heap.size, 2, none⟩ = some (.int .i64 q.ht) ∧ w'.cell? ⟨wr.heap.size, 3, none⟩ = some (.int .i64 q.gram) ∧ w'.cell? ⟨gO, j, none⟩ = some (.int .i64 (pl : Int))) wq := fun wq h => by rw [hSdef] at h; exact h
        clear hSdef
        have hHeld : S wc.drew := hSmk wc.drew ((Bu0.out.cell (p := ⟨wr.heap.size, 0, none⟩) hXl).trans D0.out) ((Bu0.out.cell (p := ⟨wr.heap.size, 1, none⟩) hXl).trans D1.out) ((Bu0.out.cell (p := ⟨wr.heap.size, 2, none⟩) hXl).trans D2.out) ((Bu0.out.cell (p := ⟨wr.heap.size, 3, none⟩) hXl).trans D3.out) ((Bu0.out.cell (p := ⟨gO, j, none⟩) hgOl).trans CO.out)
        refine wp_region_to (S := S) (T := [9, 10]) (by kernel_rfl) hHeld (fun _ => ?_)
        generalize wc.drew = u0 at *
        have Bu0z : Hid (wc.heap.size ≤ u0.heap.size) := Bu0.out.size
        refine wpTo_ts (i := 0) (v := ?_) rfl (by kernel_rfl) hSd (by rfl) (fun w hSw => ?_) (by assumption) ?_
        rotate_left
        · ((try dsimp only [RqC] at hSw); go_simp <;> with_reducible rfl)
        refine wpTo_ts (i := 1) (v := ?_) rfl (by kernel_rfl) hSd (by rfl) (fun w hSw => ?_) (by assumption) ?_
        rotate_left
        · ((try dsimp only [RqC] at hSw); go_simp <;> with_reducible rfl)
        refine wpTo_ts (i := 2) (v := ?_) rfl (by kernel_rfl) hSd (by rfl) (fun w hSw => ?_) (by assumption) ?_
        rotate_left
        · ((try dsimp only [RqC] at hSw); go_simp <;> with_reducible rfl)
        try simp only [Act.put, zz1, zz2, zz3, zz4, zz5, zz6]
        refine wpTo_ts (i := 3) (v := ?_) rfl (by kernel_rfl) hSd (by rfl) (fun w hSw => ?_) (by assumption) ?_
        rotate_left
        · ((try dsimp only [RqC] at hSw); go_simp <;> with_reducible rfl)
        refine wpTo_ts (i := 4) (v := ?_) rfl (by kernel_rfl) hSd (by rfl) (fun w hSw => ?_) (by assumption) ?_
        rotate_left
        · ((try dsimp only [RqC] at hSw); go_simp <;> with_reducible rfl)
        refine wpTo_ts (i := 5) (v := ?_) rfl (by kernel_rfl) hSd (by rfl) (fun w hSw => ?_) (by assumption) ?_
        rotate_left
        · ((try dsimp only [RqC] at hSw); go_simp <;> with_reducible rfl)
        try simp only [Act.put, zz1, zz2, zz3, zz4, zz5, zz6]
        refine wpTo_ts (i := 6) (v := ?_) rfl (by kernel_rfl) hSd (by rfl) (fun w hSw => ?_) (by assumption) ?_
        rotate_left
        · ((try dsimp only [RqC] at hSw); go_simp <;> with_reducible rfl)
        try simp only [Act.put, zz1, zz2, zz3, zz4, zz5, zz6]
        refine wpTo_ready (rs := [7]) (by kernel_rfl) (by simp) ?_
        refine AllTo.cons (o := _) rfl (fun K hK => ?_) ?_
        ·
         (try simp only [zz1, zz2, zz3])
         go_simp
         refine (l10Add_zero (pl : Int) 0 0 0 0 q.wd q.dp q.ht q.gram u0 (by omega) (by omega) (by omega) (by omega) (by omega) (by omega) (by omega) (by omega)).mono ?_
         rintro e u1 ⟨gA, cA, rfl, hoA, hb⟩
         have Bu1 := hide (Bu0.out.trans (hb.mono Bu0.out.size))
         have Qru1 : Hid (RowV.own u1 u0.heap.size ⟨gA, cA, [] ++ [(pl : Int)]⟩) := hoA
         clear hoA
         clear hb
         clear Bu0 
         clear hHeld
         go_wp2_with fail
         have hHeld := hSmk u1 ((Bu1.out.cell (p := ⟨wr.heap.size, 0, none⟩) hXl).trans D0.out) ((Bu1.out.cell (p := ⟨wr.heap.size, 1, none⟩) hXl).trans D1.out) ((Bu1.out.cell (p := ⟨wr.heap.size, 2, none⟩) hXl).trans D2.out) ((Bu1.out.cell (p := ⟨wr.heap.size, 3, none⟩) hXl).trans D3.out) ((Bu1.out.cell (p := ⟨gO, j, none⟩) hgOl).trans CO.out)
         refine hK.out _ _ (fun _ => hHeld) ?_
         clear hK K
         try simp only [Act.put, zz1, zz2, zz3, zz4, zz5, zz6]
         refine wpTo_ready (rs := [8]) (by kernel_rfl) (by simp) ?_
         refine AllTo.cons (o := _) rfl (fun K hK => ?_) ?_
         ·
          (try simp only [zz1, zz2, zz3])
          go_simp
          clear hHeld
          generalize hW : (u1.alloc (.cells #[.slice (some ⟨gA, 0, none⟩) 1 cA, .int .i64 q.wd, .int .i64 (mx 0 q.dp), .int .i64 (mx 0 q.ht), .int .i64 q.gram] 51)) = u2 at *
          obtain ⟨hb, Klu2, Zlu2⟩ := en1 hW
          have hb := unhide hb
          have Bu2 := hide (Bu1.out.trans (hb.mono Bu1.out.size))
          have Gl : wc.heap.size ≤ u1.heap.size := Bu1.out.size
          have Qru2 : Hid (RowV.own u2 u0.heap.size ⟨gA, cA, [] ++ [(pl : Int)]⟩) := RowV.own.later Qru1.out hb
          clear hb hW
          clear Bu1 Qru1
          have hHeld := hSmk u2 ((Bu2.out.cell (p := ⟨wr.heap.size, 0, none⟩) hXl).trans D0.out) ((Bu2.out.cell (p := ⟨wr.heap.size, 1, none⟩) hXl).trans D1.out) ((Bu2.out.cell (p := ⟨wr.heap.size, 2, none⟩) hXl).trans D2.out) ((Bu2.out.cell (p := ⟨wr.heap.size, 3, none⟩) hXl).trans D3.out) ((Bu2.out.cell (p := ⟨gO, j, none⟩) hgOl).trans CO.out)
          refine hK.out _ _ (fun _ => hHeld) ?_
          clear hK K
          try simp only [Act.put, zz1, zz2, zz3, zz4, zz5, zz6]
          refine wpTo_ready (rs := [9]) (by kernel_rfl) (by simp) ?_
          refine AllTo.cons (o := _) rfl (fun K hK => ?_) ?_
          ·
           skip
           have HOLD : Hid (u2.ownsRow (w.heap.size + 1) 51 5 (.slice (some ⟨g, 0, none⟩) (ys.length + 1) cap) (ys.length + 1) (cellsShelf xs)) := by have h := (HS9.out.later Bu2.out).own.out; rw [unhide HLEN] at h; exact h
           have hBz : (w.heap.size + 1) ≤ u2.heap.size := by have h1 := HB9.out.size; have h2 := Bu2.out.size; omega
           refine step_append_some _ (by rfl) _ _ 36 (by rfl) (w.heap.size + 1) 51 i0 (.agg #[.slice none 0 0, .int .i64 0, .int .i64 0, .int .i64 0, .int .i64 0]) 5 56 Try.underlying36 hi hz0 hz1 hz2 rfl (by omega) (.slice (some ⟨g, 0, none⟩) (ys.length + 1) cap) ((ys.length + 1)) (cellsShelf xs) (by rfl) HOLD.out (by simp) ⟨u1.heap.size, 0, none⟩ 1 1 [.slice (some ⟨gA, 0, none⟩) 1 cA, .int .i64 q.wd, .int .i64 (mx 0 q.dp), .int .i64 (mx 0 q.ht), .int .i64 q.gram] (by rfl) rfl (Klu2.out.news) (by simp [Value.oneCell']) (by unfold maxLen; omega) (by omega) hBz ?_
           intro g3 cap3 u3 ho6 hg6 hat6 hlt6
           obtain ⟨R, hR⟩ : ∃ R : ShelfW, R = ⟨gA, cA, [] ++ [(pl : Int)], q.wd, mx 0 q.dp, mx 0 q.ht, q.gram⟩ := ⟨_, rfl⟩
           have hRr : R.row = ⟨gA, cA, [] ++ [(pl : Int)]⟩ := by rw [hR]; rfl
           have hRc : R.cells = [.slice (some ⟨gA, 0, none⟩) 1 cA, .int .i64 q.wd, .int .i64 (mx 0 q.dp), .int .i64 (mx 0 q.ht), .int .i64 q.gram] := by rw [hR]; rfl
           have HNV := hide (Sv.more HS9.out (by have h1 := HB9.out.size; omega) Bu2.out (R := R) (by rw [hRr]; exact World.ownsRow.mono Qru2.out Bu0z.out) (by rw [hRc, unhide HLEN]; exact ho6) hg6 (hat6.imp (fun e => by simpa [Value.ownBlock] using e) (fun e => e)))
           have HNB : Hid (Below (w.heap.size + 1) W u3) := HB9.out.trans (((Bu2.out.mono (by have h1 := HB9.out.size; omega))).grown hg6 hBz (fun b hb => by have := own_base HOLD.out; simp [Value.ownBlock] at hb; omega))
           have HRC : Hid (R.car = ShelfV.zero.add (pl : Int) q) := by rw [hR]; simp [Hid, ShelfW.car, ShelfV.add, ShelfV.zero]
           clear ho6 hg6 hat6 hlt6 hHeld
           refine hK.out _ _ (fun hn => absurd (by decide) hn) ?_
           clear hK K
           try simp only [Act.put, zz1, zz2, zz3, zz4, zz5, zz6]
           refine wpTo_ready (rs := [10]) (by kernel_rfl) (by simp) ?_
           refine AllTo.cons (o := _) rfl (fun K hK => ?_) ?_
           ·
            (try simp only [zz1, zz2, zz3])
            go_simp
            refine hK.out _ _ (fun hn => absurd (by decide) hn) ?_
            clear hK K
            try simp only [Act.put, zz1, zz2, zz3, zz4, zz5, zz6]
            refine wpTo_done (by kernel_rfl) ?_ _
            refine NoPanic.normal ?_
            have HM7 : Hid ((xs ++ [R]).map ShelfW.car = shelvesTo p bs ((orderB bs).take (j + 1))) := by rw [Hid, unhide HST, unhide HNEW, List.map_append]; simp [unhide HRC]
            go_wp2_with fail
            go_roundw
            case rel => exact ⟨j + 1, g3, cap3, xs ++ [R], by omega, by go_num, by rw [List.length_append, unhide HLEN]; rfl, unhide HNV, unhide HM7, unhide HNB⟩
            case measure => simp [intOf]; omega
           exact AllTo.nil
          exact AllTo.nil
         exact AllTo.nil
        exact AllTo.nil
end Go.Proofs.Ytcblpoeeembniaa
