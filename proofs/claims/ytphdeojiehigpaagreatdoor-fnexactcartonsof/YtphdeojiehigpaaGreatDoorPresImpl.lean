/- Present of the program. -/
import Derived.Test.YtphdeojiehigpaaGreatDoorShelf
import Derived.Test.YtphdeojiehigpaaGreatDoorSortO
import Derived.Test.YtphdeojiehigpaaGreatDoorUnitsImpl
import Derived.Test.YtphdeojiehigpaaGreatDoorSpecUnits
import Derived.Lib.RowBridge
namespace Go.Proofs.YtphdeojiehigpaaGreatDoor
open Go.RowKit
set_option linter.unusedVariables false

theorem setCells_write : ∀ (vs : List Value) (w : World) (g p : Nat), w.setCells g p vs = writeCells w g p vs
  | [], _, _, _ => rfl
  | v :: vs, w, g, p => setCells_write vs _ g (p + 1)
theorem gbs_write {w : World} {g : Nat} : ∀ (vs : List Value) (W : World) (p : Nat), w.grownBy W (some g) → w.grownBy (writeCells W g p vs) (some g)
  | [], _, _, h => h
  | v :: vs, W, p, h => gbs_write vs _ _ (gb_set h p v)
theorem writeRow_all (L vs : List Value) (h : vs.length = L.length) : writeRow L 0 vs = vs := by
  apply List.ext_getElem?
  intro m
  rw [writeRow_get vs L 0 m (by omega)]
  by_cases hm : m < vs.length
  · rw [if_pos ⟨Nat.zero_le _, by omega⟩, Nat.sub_zero]
  · rw [if_neg (by omega), List.getElem?_eq_none (by omega), List.getElem?_eq_none (by omega)]
theorem own_prefix {w : World} {B e g n cap m : Nat} {xs : List Value} (h : w.ownsRow B e 1 (.slice (some ⟨g, 0, none⟩) n cap) n xs) (hm : m ≤ n) : w.ownsRow B e 1 (.slice (some ⟨g, 0, none⟩) m cap) m (xs.take m) := by
  refine ⟨by rw [List.length_take, h.1]; omega, ?_⟩
  rcases h.2 with ⟨h', _⟩ | ⟨g', cap', cur, h1, h2, h3, h4, h5, h6, h7⟩
  · cases h'
  · cases h1
    refine Or.inr ⟨g, cap, cur, rfl, h2, h3, by omega, h5, h6, ?_⟩
    rw [← h7, List.take_take]
    congr 1
    omega
theorem own_le {w : World} {B e g n cap : Nat} {xs : List Value} (h : w.ownsRow B e 1 (.slice (some ⟨g, 0, none⟩) n cap) n xs) : n ≤ cap := by
  rcases h.2 with ⟨h', _⟩ | ⟨g', cap', cur, h1, h2, h3, h4, h5, h6, h7⟩
  · cases h'
  · cases h1; exact h4
theorem compactO_any (B g n cap : Nat) (L : List Int) (w : World) (hn : n ≤ 12) (ho : OwnI w B g n cap L) :
    Calls Tryz.prog 138 #[.slice (some ⟨g, 0, none⟩) n cap] w fun e w' => e = .returned (.slice (some ⟨g, 0, none⟩) (Go.Lib.compact L).length cap) ∧ OwnI w' B g (Go.Lib.compact L).length cap (Go.Lib.compact L) ∧ w.grownBy w' (some g) := by
  have hl := ho.len
  have ht : L.take n = L := List.take_of_length_le (by omega)
  have hle := Go.Lib.compact_length_le L
  refine (Tryz.slices_Compact_int_cells g 0 n cap L w (by omega) (by omega) (own_le ho) (fun j hj => by rw [Nat.zero_add]; exact (ho.int j hj).1) (fun j hj => by rw [Nat.zero_add]; exact (ho.int j (by omega)).2)).mono ?_
  rintro e w' ⟨rfl, q, rfl⟩
  rw [ht, setCells_write]
  have hlen : ((Go.Lib.compact L ++ List.replicate (n - (Go.Lib.compact L).length) 0).map (Value.int .i64)).length = (ci L).length := by simp [ci]; omega
  refine ⟨rfl, ?_, gbs_write _ _ _ (gbi_drew (World.grownBy.refl _ _) q)⟩
  have h1 := own_write ((Go.Lib.compact L ++ List.replicate (n - (Go.Lib.compact L).length) 0).map (Value.int .i64)) (w.drewN q) _ 0 (ho.drewn q)
  rw [writeRow_all _ _ hlen] at h1
  have h2 := own_prefix h1 (show (Go.Lib.compact L).length ≤ n by omega)
  have e : (((Go.Lib.compact L ++ List.replicate (n - (Go.Lib.compact L).length) 0).map (Value.int .i64)).take (Go.Lib.compact L).length) = ci (Go.Lib.compact L) := by
    rw [List.map_append, List.take_append_of_le_length (by simp), List.take_of_length_le (by simp)]; rfl
  rw [e] at h2
  exact h2

set_option maxRecDepth 100000 in
set_option maxHeartbeats 4000000 in
theorem present_any (r : ReqV) (h : ReqH) (w : World) (hr : RdReq w r h) (hs : r.small) (hg : ErrT w) :
    Calls Tryz.prog 104 #[reqVal r h] w fun e w' => ∃ g cap, e = .returned (.slice (some ⟨g, 0, none⟩) (presentR r).length cap) ∧ w'.ownsRow w.heap.size 3 1 (.slice (some ⟨g, 0, none⟩) (presentR r).length cap) (presentR r).length (ci (presentR r)) ∧ Below w.heap.size w w' := by
  obtain ⟨i0, hi, hz0, hz1, hz2⟩ := info_parts Tryz.infoInt
  have HSN := hide (fun W hb => soundItems_any r h W (hr.mono hb) hs (hg.later hb))
  have hrd := sound_rd hr
  have HLT : Hid (0 < (itemsR r).length → ∀ x, soundA r h = some x → x.block < w.heap.size + 1) := fun hn x hx => Nat.lt_succ_of_lt (rdr_lt7 ItemV.len hrd hn x hx)
  have hgd := itemsR_good r
  have hm8 := hgd.len
  have HRD := hide hrd
  have HGD := hide hgd
  clear hr hg hrd hgd
  unfold reqVal
  unfold reqVal at HSN
  unfold soundV at HSN
  unfold presentR
  generalize soundA r h = sa at *
  generalize soundC r h = sc at *
  generalize itemsR r = xs at *
  go_enter Tryz.func104, Tryz.ntmps104
  go_wp2_with fail
  have KA : Hid (Blk ((w.alloc (.cells #[.int .i64 r.way, .int .i64 r.pal.wd, .int .i64 r.pal.dp, .int .i64 r.pal.ht, .int .i64 r.pal.gram, .int .i64 r.classes, .slice h.ap r.pairs.length h.cp, .slice h.at' r.types.length h.ct, .int .i64 r.master, .slice h.ai r.items.length h.ci] 40)).alloc (.cells #[] 3)) w.heap.size [.int .i64 r.way, .int .i64 r.pal.wd, .int .i64 r.pal.dp, .int .i64 r.pal.ht, .int .i64 r.pal.gram, .int .i64 r.classes, .slice h.ap r.pairs.length h.cp, .slice h.at' r.types.length h.ct, .int .i64 r.master, .slice h.ai r.items.length h.ci]) := (Blk.allocAt [.int .i64 r.way, .int .i64 r.pal.wd, .int .i64 r.pal.dp, .int .i64 r.pal.ht, .int .i64 r.pal.gram, .int .i64 r.classes, .slice h.ap r.pairs.length h.cp, .slice h.at' r.types.length h.ct, .int .i64 r.master, .slice h.ai r.items.length h.ci] rfl).allocOld (by simp) _
  have O1 : Hid (((w.alloc (.cells #[.int .i64 r.way, .int .i64 r.pal.wd, .int .i64 r.pal.dp, .int .i64 r.pal.ht, .int .i64 r.pal.gram, .int .i64 r.classes, .slice h.ap r.pairs.length h.cp, .slice h.at' r.types.length h.ct, .int .i64 r.master, .slice h.ai r.items.length h.ci] 40)).alloc (.cells #[] 3)).ownsRow (w.heap.size + 1) 3 1 (.slice (some ⟨w.heap.size + 1, 0, none⟩) 0 0) 0 []) := by
    have := World.ownsRow_lit (e := 3) (w.alloc (.cells #[.int .i64 r.way, .int .i64 r.pal.wd, .int .i64 r.pal.dp, .int .i64 r.pal.ht, .int .i64 r.pal.gram, .int .i64 r.classes, .slice h.ap r.pairs.length h.cp, .slice h.at' r.types.length h.ct, .int .i64 r.master, .slice h.ai r.items.length h.ci] 40)) #[] 0 (base := w.heap.size + 1) (size := 1) (by simp) (Nat.zero_le _) rfl
    rw [World.size_alloc] at this
    exact this
  have H1 : Hid (Below w.heap.size w ((w.alloc (.cells #[.int .i64 r.way, .int .i64 r.pal.wd, .int .i64 r.pal.dp, .int .i64 r.pal.ht, .int .i64 r.pal.gram, .int .i64 r.classes, .slice h.ap r.pairs.length h.cp, .slice h.at' r.types.length h.ct, .int .i64 r.master, .slice h.ai r.items.length h.ci] 40)).alloc (.cells #[] 3))) := ((Below.refl _ _).alloc (Nat.le_refl _) _).alloc (by simp) _
  have z1 : w.heap.size + 1 < ((w.alloc (.cells #[.int .i64 r.way, .int .i64 r.pal.wd, .int .i64 r.pal.dp, .int .i64 r.pal.ht, .int .i64 r.pal.gram, .int .i64 r.classes, .slice h.ap r.pairs.length h.cp, .slice h.at' r.types.length h.ct, .int .i64 r.master, .slice h.ai r.items.length h.ci] 40)).alloc (.cells #[] 3)).heap.size := by simp
  generalize ((w.alloc (.cells #[.int .i64 r.way, .int .i64 r.pal.wd, .int .i64 r.pal.dp, .int .i64 r.pal.ht, .int .i64 r.pal.gram, .int .i64 r.classes, .slice h.ap r.pairs.length h.cp, .slice h.at' r.types.length h.ct, .int .i64 r.master, .slice h.ai r.items.length h.ci] 40)).alloc (.cells #[] 3)) = w1 at *
  clear KA
  refine (HSN.out w1 H1.out).mono ?_
  rintro e w2 ⟨rfl, hb2⟩
  have O2 := hide (own_later O1.out hb2)
  have H2 := hide (H1.out.trans (hb2.mono H1.out.size))
  have HI : Hid (RdR ItemV.cells 7 w2 sa xs.length xs) := RdR.mono (by omega) ItemV.len HRD.out H2.out
  have z2 : w.heap.size + 1 < w2.heap.size := Nat.lt_of_lt_of_le z1 hb2.size
  clear hb2 O1 H1 HSN HRD z1
  go_wp2
  go_loopw [3, 10] (fun o i wr => ∃ k g cap : Nat, k ≤ xs.length ∧ i = .int .i64 k ∧ o = .slice (some ⟨g, 0, none⟩) k cap ∧ wr.ownsRow (w.heap.size + 1) 3 1 (.slice (some ⟨g, 0, none⟩) k cap) k (ci ((xs.take k).map (·.cls))) ∧ Below (w.heap.size + 1) w2 wr) (fun _ i _ => xs.length - (intOf i).toNat)
  case atStart => exact ⟨0, w.heap.size + 1, 0, Nat.zero_le _, rfl, rfl, unhide O2, Below.refl _ _⟩
  case round =>
    clear O2
    obtain ⟨k, g, cap, hk, rfl, rfl, hown, hbel⟩ := hrel
    have hsz := hbel.size
    have HOW := hide hown
    have HB := hide hbel
    by_cases hlk : k < xs.length
    · obtain ⟨b, off, ha, hc⟩ := (rdr_below HI.out hbel HLT.out).2 k hlk
      subst ha
      have hst : (xs.take (k + 1)).map (·.cls) = (xs.take k).map (·.cls) ++ [(xs.getD k default).cls] := by
        rw [List.take_succ_eq_append_getElem hlk, List.map_append]
        simp [List.getD_eq_getElem?_getD, hlk]
      generalize xs.getD k default = q at hc hst
      have HST := hide hst
      have hl : ((xs.take k).map (·.cls)).length = k := by rw [List.length_map, List.length_take]; omega
      have HL := hide hl
      have d0 : wr.cell? ⟨b, off + k * 7, none⟩ = some (.int .i64 q.id) := hc 0 (by omega)
      have d1 : wr.cell? ⟨b, off + k * 7 + 1, none⟩ = some (.int .i64 q.wd) := hc 1 (by omega)
      have d2 : wr.cell? ⟨b, off + k * 7 + 2, none⟩ = some (.int .i64 q.ht) := hc 2 (by omega)
      have d3 : wr.cell? ⟨b, off + k * 7 + 3, none⟩ = some (.int .i64 q.dp) := hc 3 (by omega)
      have d4 : wr.cell? ⟨b, off + k * 7 + 4, none⟩ = some (.int .i64 q.gram) := hc 4 (by omega)
      have d5 : wr.cell? ⟨b, off + k * 7 + 5, none⟩ = some (.int .i64 q.cls) := hc 5 (by omega)
      have d6 : wr.cell? ⟨b, off + k * 7 + 6, none⟩ = some (.int .i64 q.cnt) := hc 6 (by omega)
      clear hc hst hown hbel hl
      go_wp2_with (first
        | (at_builtin; refine wpList_append_own _ rfl _ _ 29 rfl (w.heap.size + 1) 3 i0 (.int .i64 0) 1 8 Tryz.underlying29 hi hz0 hz1 hz2 rfl (by decide) (.slice (some ⟨g, 0, none⟩) k cap) k (ci ((xs.take k).map (·.cls))) rfl ((HOW.out.alloc _).alloc _) ⟨wr.heap.size + 1, 0, none⟩ 1 1 [.int .i64 q.cls] rfl rfl (by rw [← show (wr.alloc (.cells #[.int .i64 q.id, .int .i64 q.wd, .int .i64 q.ht, .int .i64 q.dp, .int .i64 q.gram, .int .i64 q.cls, .int .i64 q.cnt] 101)).heap.size = wr.heap.size + 1 by simp]; exact cell_one_new _ _ _) (by simp [Value.oneCell']) (by unfold maxLen; omega) (by omega) (by simp; omega) ?_; intro v' w5 h1 h2 h3)
        | go_in)
      obtain ⟨g', cap', hv, ho, hb⟩ := app_ints HL.out (HOW.out.alloc (.cells #[.int .i64 q.id, .int .i64 q.wd, .int .i64 q.ht, .int .i64 q.dp, .int .i64 q.gram, .int .i64 q.cls, .int .i64 q.cnt] 101)) (HB.out.alloc (by omega) _) (by simp; omega) h1 h2 h3
      go_roundw
      case rel => exact ⟨k + 1, g', cap', by omega, by go_num, hv, by rw [unhide HST]; exact ho, hb⟩
      case measure => simp [intOf]; omega
    · obtain rfl : k = xs.length := by omega
      have HOW2 : Hid (OwnI wr (w.heap.size + 1) g xs.length cap (xs.map (·.cls))) := by have := unhide HOW; rwa [List.take_length] at this
      have HB2 := hide (H2.out.trans (HB.out.mono (Nat.le_succ _)))
      have zr : w.heap.size + 1 < wr.heap.size := Nat.lt_of_lt_of_le z2 hsz
      have hgB : w.heap.size + 1 ≤ g := own_base hown
      clear hown hbel HOW HB H2
      by_cases hm0 : xs.length = 0
      · have hx0 := List.eq_nil_of_length_eq_zero hm0
        subst hx0
        go_wp2_with fail
        refine (sortO_nil _ cap wr).mono ?_
        rintro e w3 ⟨rfl, hw⟩
        subst w3
        go_wp2_with fail
        refine (Tryz.slices_Compact_int_empty _ cap wr).mono ?_
        rintro e w3 ⟨rfl, hw⟩
        subst w3
        go_wp2
        go_ret
        exact ⟨g, cap, rfl, World.ownsRow.mono HOW2.out (Nat.le_succ _), unhide HB2⟩
      · go_wp2_with fail
        refine (sortO_any (w.heap.size + 1) g xs.length cap (xs.map (·.cls)) wr (by simp) (by omega) (by omega) HOW2.out).mono ?_
        rintro e w3 ⟨rfl, M, hp, hu, ho3, hg3⟩
        have HM : Hid (Go.Lib.compact M = presentL xs) := compact_present xs M hp hu HGD.out.cls
        have HB3 := hide (HB2.out.grown hg3 (by omega) (fun b hb => by injection hb with hb; omega))
        have O3 := hide ho3
        clear hp hu ho3 hg3
        go_wp2_with fail
        refine (compactO_any (w.heap.size + 1) g xs.length cap M w3 (by omega) O3.out).mono ?_
        rintro e w4 ⟨rfl, ho4, hg4⟩
        rw [unhide HM] at ho4 ⊢
        have HB4 := hide (HB3.out.grown hg4 HB3.out.size (fun b hb => by injection hb with hb; omega))
        have O4 := hide ho4
        clear ho4 hg4
        go_wp2
        go_ret
        exact ⟨g, cap, rfl, World.ownsRow.mono O4.out (Nat.le_succ _), unhide HB4⟩
end Go.Proofs.YtphdeojiehigpaaGreatDoor
