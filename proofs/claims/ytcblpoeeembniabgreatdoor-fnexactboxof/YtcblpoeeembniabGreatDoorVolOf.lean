/- VolumeOf and GramOf of the program. -/
import Derived.Test.YtcblpoeeembniabGreatDoorItemOf
import Derived.Test.YtcblpoeeembniabGreatDoorUnitsImpl
namespace Go.Proofs.YtcblpoeeembniabGreatDoor
open Go.RowKit
set_option linter.unusedVariables false

theorem k_at {K : Act → World → Prop} {A : Act} {d : Option Tmp} {v : Value} (u : Value) {w : World} (h : v = u) (hk : K (A.put d u) w) : K (A.put d v) w := h ▸ hk
theorem sumTo_step (f : Int → Int) (us : List Int) (k : Nat) (h : k < us.length) : ((us.take (k + 1)).map f).sum = ((us.take k).map f).sum + f (us.getD k 0) := sum_step f us k h
theorem sumTo_bd (f : Int → Int) (b : Int) (hb0 : 0 ≤ b) (hf : ∀ x, 0 ≤ f x ∧ f x ≤ b) (us : List Int) (k : Nat) (hk : k ≤ 1048600) : 0 ≤ ((us.take k).map f).sum ∧ ((us.take k).map f).sum ≤ b * 1048600 := by
 have h := sum_bd f b hf (us.take k)
 have hl : (us.take k).length ≤ 1048600 := by rw [List.length_take]; omega
 refine ⟨h.1, Int.le_trans h.2 (Int.mul_le_mul_of_nonneg_left (by omega) hb0)⟩

set_option maxRecDepth 100000 in
set_option maxHeartbeats 4000000 in
theorem volumeOf_any (r : ReqV) (h : ReqH) (a : Option Addr) (n c : Nat) (us : List Int) (w : World) (hr : RdReq w r h) (hs : r.small) (hg : ErrT w) (hu : Rd w a n us) (hn : n ≤ 1048600) :
 Calls Tryz.prog 75 #[reqVal r h, .slice a n c] w fun e w' => e = .returned (.int .i64 (volOf (itemsR r) us)) ∧ Below w.heap.size w w' := by
 have HSN := hide (fun W hb => soundItems_any r h W (hr.mono hb) hs (hg.later hb))
 have HRD := hide (sound_rd hr)
 have HGD := hide (itemsR_good r)
 have HU := hide hu
 clear hr hg hu
 unfold reqVal
 unfold reqVal at HSN
 unfold soundV at HSN
 generalize soundA r h = sa at *
 generalize soundC r h = sc at *
 generalize itemsR r = xs at *
 go_enter Tryz.func75, Tryz.ntmps75
 go_wp2_with fail
 generalize hW : (w.alloc (.cells #[.int .i64 r.way, .int .i64 r.pal.wd, .int .i64 r.pal.dp, .int .i64 r.pal.ht, .int .i64 r.pal.gram, .int .i64 r.classes, .slice h.ap r.pairs.length h.cp, .slice h.at' r.types.length h.ct, .int .i64 r.master, .slice h.ai r.items.length h.ci] 41)) = w1 at *
 obtain ⟨hb, Kaw1, zaw1⟩ := en1 hW
 have hb := unhide hb
 have Hw1 : Hid (Below w.heap.size w w1) := hb
 clear hb hW
 clear Kaw1 zaw1
 refine (HSN.out w1 Hw1.out).mono ?_
 rintro e w2 ⟨rfl, hb2⟩
 have H2 := hide (Hw1.out.trans (hb2.mono Hw1.out.size))
 clear hb2 Hw1 HSN
 go_wp2
 go_loopw [6, 14] (fun s i wr => ∃ (k : Nat) (t : Int), k ≤ n ∧ i = .int .i64 k ∧ s = .int .i64 t ∧ t = ((us.take k).map (volAt xs)).sum ∧ Below w.heap.size w wr) (fun _ i _ => n - (intOf i).toNat)
 case atStart => exact ⟨0, 0, Nat.zero_le _, rfl, rfl, by simp, unhide H2⟩
 case round =>
  clear H2
  obtain ⟨k, t, hk, rfl, rfl, ht, hbel⟩ := hrel
  have HT := hide ht
  have HB := hide hbel
  by_cases hlk : k < n
  case neg =>
   have HE : Hid (t = volOf xs us) := by rw [unhide HT, List.take_of_length_le (by rw [HU.out.1]; omega)]; rfl
   clear ht hbel
   go_wp2
   go_ret
   exact ⟨ret_num HE.out, unhide HB⟩
  obtain ⟨b, off, ha, hc⟩ := (HU.out.mono hbel).2 k hlk
  have htb := sumTo_bd (volAt xs) 8000000000 (by omega) (volAt_bd xs) us k (by omega)
  rw [← ht] at htb
  have HST := hide (sumTo_step (volAt xs) us k (by rw [HU.out.1]; exact hlk))
  generalize us.getD k 0 = x at hc HST
  have ha' := ha
  subst ha'
  have htb0 := htb.1
  have htb1 : t ≤ 8388800000000000 := by have := htb.2; omega
  have hxb := (volAt_bd xs) x
  have HVQ := hide (show volAt xs x = vol (itemAt xs x).wd (itemAt xs x).ht (itemAt xs x).dp from rfl)
  rw [unhide HVQ] at hxb
  clear ht hbel htb ha
  go_wp2_with fail
  refine (itemOf_any sa _ sc xs x wr HGD.out (RdR.mono (by omega) ItemV.len HRD.out HB.out)).mono ?_
  rintro e w3 ⟨rfl, hb3⟩
  have HB3 := hide (HB.out.trans (hb3.mono HB.out.size))
  clear hb3 HB
  generalize itemAt xs x = q at HVQ hxb ⊢
  unfold itemVal
  go_wp2_with fail
  have HB4 := hide (HB3.out.alloc HB3.out.size (.cells #[.int .i64 q.id, .int .i64 q.wd, .int .i64 q.ht, .int .i64 q.dp, .int .i64 q.gram, .int .i64 q.cls, .int .i64 q.cnt] 89))
  refine (volume_any _ _ _ _).mono ?_
  rintro e w4 ⟨rfl, hw⟩
  subst w4
  generalize vol q.wd q.ht q.dp = v at HVQ hxb ⊢
  obtain ⟨hx0, hx1⟩ := hxb
  go_wp2
  go_roundw
  case rel => exact ⟨k + 1, _, by omega, by go_num, rfl, by rw [unhide HST, ← unhide HT, unhide HVQ], unhide HB4⟩
  case measure => simp [intOf]; omega

set_option maxRecDepth 100000 in
set_option maxHeartbeats 4000000 in
theorem gramOf_any (r : ReqV) (h : ReqH) (a : Option Addr) (n c : Nat) (us : List Int) (w : World) (hr : RdReq w r h) (hs : r.small) (hg : ErrT w) (hu : Rd w a n us) (hn : n ≤ 1048600) :
 Calls Tryz.prog 59 #[reqVal r h, .slice a n c] w fun e w' => e = .returned (.int .i64 (gramOf (itemsR r) us)) ∧ Below w.heap.size w w' := by
 have HSN := hide (fun W hb => soundItems_any r h W (hr.mono hb) hs (hg.later hb))
 have HRD := hide (sound_rd hr)
 have HGD := hide (itemsR_good r)
 have HU := hide hu
 clear hr hg hu
 unfold reqVal
 unfold reqVal at HSN
 unfold soundV at HSN
 generalize soundA r h = sa at *
 generalize soundC r h = sc at *
 generalize itemsR r = xs at *
 go_enter Tryz.func59, Tryz.ntmps59
 go_wp2_with fail
 generalize hW : (w.alloc (.cells #[.int .i64 r.way, .int .i64 r.pal.wd, .int .i64 r.pal.dp, .int .i64 r.pal.ht, .int .i64 r.pal.gram, .int .i64 r.classes, .slice h.ap r.pairs.length h.cp, .slice h.at' r.types.length h.ct, .int .i64 r.master, .slice h.ai r.items.length h.ci] 41)) = w1 at *
 obtain ⟨hb, Kaw1, zaw1⟩ := en1 hW
 have hb := unhide hb
 have Hw1 : Hid (Below w.heap.size w w1) := hb
 clear hb hW
 clear Kaw1 zaw1
 refine (HSN.out w1 Hw1.out).mono ?_
 rintro e w2 ⟨rfl, hb2⟩
 have H2 := hide (Hw1.out.trans (hb2.mono Hw1.out.size))
 clear hb2 Hw1 HSN
 go_wp2
 go_loopw [6, 13] (fun s i wr => ∃ (k : Nat) (t : Int), k ≤ n ∧ i = .int .i64 k ∧ s = .int .i64 t ∧ t = ((us.take k).map (gramAt xs)).sum ∧ Below w.heap.size w wr) (fun _ i _ => n - (intOf i).toNat)
 case atStart => exact ⟨0, 0, Nat.zero_le _, rfl, rfl, by simp, unhide H2⟩
 case round =>
  clear H2
  obtain ⟨k, t, hk, rfl, rfl, ht, hbel⟩ := hrel
  have HT := hide ht
  have HB := hide hbel
  by_cases hlk : k < n
  case neg =>
   have HE : Hid (t = gramOf xs us) := by rw [unhide HT, List.take_of_length_le (by rw [HU.out.1]; omega)]; rfl
   clear ht hbel
   go_wp2
   go_ret
   exact ⟨ret_num HE.out, unhide HB⟩
  obtain ⟨b, off, ha, hc⟩ := (HU.out.mono hbel).2 k hlk
  have htb := sumTo_bd (gramAt xs) 100000 (by omega) (gramAt_bd xs HGD.out.gram) us k (by omega)
  rw [← ht] at htb
  have HST := hide (sumTo_step (gramAt xs) us k (by rw [HU.out.1]; exact hlk))
  generalize us.getD k 0 = x at hc HST
  have ha' := ha
  subst ha'
  have htb0 := htb.1
  have htb1 : t ≤ 8388800000000000 := by have := htb.2; omega
  have hxb := (gramAt_bd xs HGD.out.gram) x
  have HVQ := hide (show gramAt xs x = (itemAt xs x).gram from rfl)
  rw [unhide HVQ] at hxb
  clear ht hbel htb ha
  go_wp2_with fail
  refine (itemOf_any sa _ sc xs x wr HGD.out (RdR.mono (by omega) ItemV.len HRD.out HB.out)).mono ?_
  rintro e w3 ⟨rfl, hb3⟩
  have HB3 := hide (HB.out.trans (hb3.mono HB.out.size))
  clear hb3 HB
  generalize itemAt xs x = q at HVQ hxb ⊢
  unfold itemVal
  obtain ⟨hx0, hx1⟩ := hxb
  go_wp2
  refine k_at (.int .i64 q.gram) rfl ?_
  go_wp2
  go_roundw
  case rel => exact ⟨k + 1, _, by omega, by go_num, rfl, by rw [unhide HST, ← unhide HT, unhide HVQ], unhide HB3⟩
  case measure => simp [intOf]; omega
end Go.Proofs.YtcblpoeeembniabGreatDoor
