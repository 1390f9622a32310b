/- BoxesOk and AreaOf of the program and of the model. -/
import Derived.Test.YtcblpoeeembniaaStructs
import Derived.Test.YtcblpoeeembniaaItemOk
namespace Go.Proofs.Ytcblpoeeembniaa
open Go.RowKit
set_option linter.unusedVariables false
set_option linter.unusedSimpArgs false

def boxB (p : PalletV) (b : BoxV) : Bool := inB b.wd 1 p.wd && inB b.dp 1 p.dp && inB b.ht 1 p.ht && inB b.gram 1 p.gram
def boxesB (p : PalletV) (bs : List BoxV) : Bool := palletB p.wd p.dp p.ht p.gram && bs.all (boxB p)
def areaB (b : BoxV) : Int := vol b.wd 1 b.dp
def areaR (bs : List BoxV) : Int := (bs.map areaB).sum
theorem bx_step {α : Type} [Inhabited α] (f : α → Bool) (xs : List α) (k : Nat) (h : k < xs.length) (h0 : (xs.take k).all f = true) (h1 : f (xs.getD k default) = true) : (xs.take (k + 1)).all f = true := by
 rw [List.take_succ_eq_append_getElem h, List.all_append, h0]
 simpa [h] using h1
theorem bx_fell {α : Type} [Inhabited α] (f : α → Bool) (xs : List α) (k : Nat) (h : k < xs.length) (h1 : f (xs.getD k default) = false) : xs.all f = false := by
 rw [List.all_eq_false]
 exact ⟨xs[k], List.getElem_mem _, by simpa [h] using h1⟩
theorem bx_whole {α : Type} (f : α → Bool) (xs : List α) (k : Nat) (h : xs.length ≤ k) (h0 : (xs.take k).all f = true) : xs.all f = true := by
 rwa [List.take_of_length_le h] at h0
theorem bx_ret {a b : Bool} (h : a = b) : Ending.returned (.bool a) = .returned (.bool b) := by rw [h]
theorem bx_num {a b : Int} (h : a = b) : Ending.returned (.int .i64 a) = .returned (.int .i64 b) := by rw [h]
theorem boxesB_fell {p : PalletV} {bs : List BoxV} (h : bs.all (boxB p) = false) : boxesB p bs = false := by rw [boxesB, h, Bool.and_false]
theorem boxesB_all {p : PalletV} {bs : List BoxV} (h : bs.all (boxB p) = true) : boxesB p bs = palletB p.wd p.dp p.ht p.gram := by rw [boxesB, h, Bool.and_true]
theorem boxesB_not {p : PalletV} {bs : List BoxV} (h : palletB p.wd p.dp p.ht p.gram = false) : boxesB p bs = false := by rw [boxesB, h, Bool.false_and]
theorem area_step (bs : List BoxV) (k : Nat) (h : k < bs.length) : areaR (bs.take (k + 1)) = areaR (bs.take k) + areaB (bs.getD k default) := by
 unfold areaR
 rw [List.take_succ_eq_append_getElem h, List.map_append, List.sum_append]
 simp [h]
theorem areaB_bd (b : BoxV) : 0 ≤ areaB b ∧ areaB b ≤ 8000000000 := vol_bd _ _ _
theorem areaR_bd : ∀ bs : List BoxV, 0 ≤ areaR bs ∧ areaR bs ≤ 8000000000 * bs.length
 | [] => by simp [areaR]
 | b :: bs => by
  have h1 := areaR_bd bs
  have h2 := areaB_bd b
  simp only [areaR, List.map_cons, List.sum_cons, List.length_cons] at h1 ⊢
  omega
theorem areaR_take (bs : List BoxV) (k n : Nat) (hl : bs.length = n) (hn : n ≤ 1048576) : 0 ≤ areaR (bs.take k) ∧ areaR (bs.take k) ≤ 8388608000000000 := by
 have h := areaR_bd (bs.take k)
 have hl2 : (bs.take k).length ≤ n := by rw [List.length_take]; omega
 omega
theorem area_in {x y : Int} (h1 : inB x 0 2000 = true) (h2 : inB y 0 2000 = true) : vol x 1 y = x * y := by rw [vol_in h1 (by decide) h2, Int.mul_one]

theorem boxOk_any (p : PalletV) (b : BoxV) (w : World) :
 Calls Try.prog 33 #[.agg #[.int .i64 p.wd, .int .i64 p.dp, .int .i64 p.ht, .int .i64 p.gram], .agg #[.int .i64 b.wd, .int .i64 b.dp, .int .i64 b.ht, .int .i64 b.gram]] w fun e w' => e = .returned (.bool (boxB p b)) ∧ Below w.heap.size w w' := by
 obtain ⟨p0, p1, p2, p3⟩ := p
 obtain ⟨b0, b1, b2, b3⟩ := b
 unfold boxB
 dsimp only
 cases h1 : inB b0 1 p0
 case' true =>
  cases h2 : inB b1 1 p1
  case' true =>
   cases h3 : inB b2 1 p2
   case' true => cases h4 : inB b3 1 p3
 all_goals
  go_enter Try.func33, Try.ntmps33
  go_wp2_with ((go_at_call 52; refine (within_any _ _ _ _).mono ?_; rintro e w' ⟨rfl, rfl⟩))
  go_ret
  exact ⟨rfl, ((Below.refl _ _).alloc (Nat.le_refl _) _).alloc (by simp) _⟩
set_option maxHeartbeats 1000000 in
theorem boxesOk_any (p : PalletV) (a : Option Addr) (n c : Nat) (xs : List BoxV) (w : World) (hr : RdR BoxV.cells 4 w a n xs) (hn : n ≤ 1048576) :
 Calls Try.prog 13 #[.agg #[.int .i64 p.wd, .int .i64 p.dp, .int .i64 p.ht, .int .i64 p.gram], .slice a n c] w fun e w' => e = .returned (.bool (boxesB p xs)) ∧ Below w.heap.size w w' := by
 have HR := hide hr
 clear hr
 go_enter Try.func13, Try.ntmps13
 go_wp2
 go_loopw [9] (fun i wr => ∃ k : Nat, k ≤ n ∧ i = .int .i64 k ∧ (xs.take k).all (boxB p) = true ∧ Below w.heap.size w wr ∧ Blk wr w.heap.size [.int .i64 p.wd, .int .i64 p.dp, .int .i64 p.ht, .int .i64 p.gram] ∧ w.heap.size < wr.heap.size) (fun i _ => n - (intOf i).toNat)
 case atStart => exact ⟨0, Nat.zero_le _, rfl, rfl, (Below.refl _ _).alloc (Nat.le_refl _) _, Blk.allocAt [.int .i64 p.wd, .int .i64 p.dp, .int .i64 p.ht, .int .i64 p.gram] rfl, by simp⟩
 case round =>
  obtain ⟨k, hk, rfl, hall, hbel, hkp, hsz⟩ := hrel
  have HA := hide hall
  have HB := hide hbel
  obtain ⟨p0, p1, p2, p3⟩ := Blk.cs4 hkp
  have KP := hide hkp
  clear hall hkp
  by_cases hlt : k < n
  · obtain ⟨b, off, rfl, hc⟩ := HR.out.2 k hlt
    have HS := hide (bx_step (boxB p) xs k (by rw [HR.out.1]; exact hlt) HA.out)
    have HF := hide (bx_fell (boxB p) xs k (by rw [HR.out.1]; exact hlt))
    generalize xs.getD k default = q at hc HS HF
    have d0 : wr.cell? ⟨b, off + k * 4, none⟩ = some (.int .i64 q.wd) := (hbel.cell (World.block_lt_of_cell? w _ (hc 0 (by omega)))).trans (hc 0 (by omega))
    have d1 : wr.cell? ⟨b, off + k * 4 + 1, none⟩ = some (.int .i64 q.dp) := (hbel.cell (World.block_lt_of_cell? w _ (hc 1 (by omega)))).trans (hc 1 (by omega))
    have d2 : wr.cell? ⟨b, off + k * 4 + 2, none⟩ = some (.int .i64 q.ht) := (hbel.cell (World.block_lt_of_cell? w _ (hc 2 (by omega)))).trans (hc 2 (by omega))
    have d3 : wr.cell? ⟨b, off + k * 4 + 3, none⟩ = some (.int .i64 q.gram) := (hbel.cell (World.block_lt_of_cell? w _ (hc 3 (by omega)))).trans (hc 3 (by omega))
    clear hc hbel HA
    go_wp2_with fail
    refine (boxOk_any p q _).mono ?_
    rintro e w1 ⟨rfl, hb1⟩
    have hba : Below wr.heap.size wr (wr.alloc (.cells #[.int .i64 q.wd, .int .i64 q.dp, .int .i64 q.ht, .int .i64 q.gram] 52)) := (Below.refl _ _).alloc (Nat.le_refl _) _
    have hb2 := hba.trans (hb1.mono hba.size)
    have HB1 := hide (HB.out.trans (hb2.mono HB.out.size))
    have HK1 := hide (Blk.below hb2 hsz KP.out)
    have hz1 : w.heap.size < w1.heap.size := Nat.lt_of_lt_of_le hsz hb2.size
    clear hb1 hba hb2 HB KP d0 d1 d2 d3 p0 p1 p2 p3
    cases hq : boxB p q
    · have HF' := hide (boxesB_fell (HF.out hq))
      clear HF HS
      go_wp2_with fail
      go_ret
      exact ⟨bx_ret (unhide HF').symm, unhide HB1⟩
    have HS' := hide (HS.out hq)
    clear HF HS
    go_wp2_with fail
    go_roundw
    case rel => exact ⟨k + 1, by omega, by go_num, unhide HS', unhide HB1, unhide HK1, hz1⟩
    case measure => simp [intOf]; omega
  · have HW := hide (boxesB_all (p := p) (bx_whole (boxB p) xs k (by rw [HR.out.1]; omega) HA.out))
    clear hbel
    go_wp2_with fail
    refine (palletOk_any p.wd p.dp p.ht p.gram wr).mono ?_
    rintro e w1 ⟨rfl, hb1⟩
    have HB1 := hide (HB.out.trans (hb1.mono HB.out.size))
    clear hb1
    go_wp2_with fail
    go_ret
    exact ⟨bx_ret HW.out.symm, unhide HB1⟩
set_option maxHeartbeats 2000000 in
theorem specBoxesOk_any (p : PalletV) (a : Option Addr) (n c : Nat) (xs : List BoxV) (w : World) (hr : RdR BoxV.cells 4 w a n xs) (hn : n ≤ 1048576) :
 Calls Try.prog 10 #[.agg #[.int .i64 p.wd, .int .i64 p.dp, .int .i64 p.ht, .int .i64 p.gram], .slice a n c] w fun e w' => e = .returned (.bool (boxesB p xs)) ∧ Below w.heap.size w w' := by
 have HR := hide hr
 clear hr
 go_enter Try.func10, Try.ntmps10
 go_wp2_with fail
 refine (specPalletOk_any p.wd p.dp p.ht p.gram _).mono ?_
 rintro e w0 ⟨rfl, hb0⟩
 have hba : Below w.heap.size w (w.alloc (.cells #[.int .i64 p.wd, .int .i64 p.dp, .int .i64 p.ht, .int .i64 p.gram] 27)) := (Below.refl _ _).alloc (Nat.le_refl _) _
 have HB0 := hide (hba.trans (hb0.mono hba.size))
 have HK0 := hide (Blk.below hb0 (by simp) (Blk.allocAt (w := w) (t := 27) [.int .i64 p.wd, .int .i64 p.dp, .int .i64 p.ht, .int .i64 p.gram] rfl))
 have hz0 : w.heap.size < w0.heap.size := Nat.lt_of_lt_of_le (by simp) hb0.size
 clear hba hb0
 cases hp : palletB p.wd p.dp p.ht p.gram
 · have HF' := hide (boxesB_not (bs := xs) hp)
   clear HK0
   go_wp2_with fail
   go_ret
   exact ⟨bx_ret (unhide HF').symm, unhide HB0⟩
 have HPT := hide hp
 go_wp2
 go_loopw [5] (fun i wr => ∃ k : Nat, k ≤ n ∧ i = .int .i64 k ∧ (xs.take k).all (boxB p) = true ∧ Below w.heap.size w wr ∧ Blk wr w.heap.size [.int .i64 p.wd, .int .i64 p.dp, .int .i64 p.ht, .int .i64 p.gram] ∧ w.heap.size < wr.heap.size) (fun i _ => n - (intOf i).toNat)
 case atStart => exact ⟨0, Nat.zero_le _, rfl, rfl, unhide HB0, unhide HK0, hz0⟩
 case round =>
  clear HB0 HK0 hp
  obtain ⟨k, hk, rfl, hall, hbel, hkp, hsz⟩ := hrel
  have HA := hide hall
  have HB := hide hbel
  obtain ⟨p0, p1, p2, p3⟩ := Blk.cs4 hkp
  have KP := hide hkp
  clear hall hkp
  by_cases hlt : k < n
  · obtain ⟨b, off, rfl, hc⟩ := HR.out.2 k hlt
    have HS := hide (bx_step (boxB p) xs k (by rw [HR.out.1]; exact hlt) HA.out)
    have HF := hide (bx_fell (boxB p) xs k (by rw [HR.out.1]; exact hlt))
    generalize xs.getD k default = q at hc HS HF
    have d0 : wr.cell? ⟨b, off + k * 4, none⟩ = some (.int .i64 q.wd) := (hbel.cell (World.block_lt_of_cell? w _ (hc 0 (by omega)))).trans (hc 0 (by omega))
    have d1 : wr.cell? ⟨b, off + k * 4 + 1, none⟩ = some (.int .i64 q.dp) := (hbel.cell (World.block_lt_of_cell? w _ (hc 1 (by omega)))).trans (hc 1 (by omega))
    have d2 : wr.cell? ⟨b, off + k * 4 + 2, none⟩ = some (.int .i64 q.ht) := (hbel.cell (World.block_lt_of_cell? w _ (hc 2 (by omega)))).trans (hc 2 (by omega))
    have d3 : wr.cell? ⟨b, off + k * 4 + 3, none⟩ = some (.int .i64 q.gram) := (hbel.cell (World.block_lt_of_cell? w _ (hc 3 (by omega)))).trans (hc 3 (by omega))
    have hba : Below wr.heap.size wr (wr.alloc (.cells #[.int .i64 q.wd, .int .i64 q.dp, .int .i64 q.ht, .int .i64 q.gram] 52)) := (Below.refl _ _).alloc (Nat.le_refl _) _
    have HB1 := hide (HB.out.trans (hba.mono HB.out.size))
    have HK1 := hide (Blk.below hba hsz KP.out)
    have hz1 := Nat.lt_of_lt_of_le hsz hba.size
    clear hba hc hbel HA HB KP
    cases h1 : inB q.wd 1 p.wd
    case' true =>
     cases h2 : inB q.dp 1 p.dp
     case' true =>
      cases h3 : inB q.ht 1 p.ht
      case' true => cases h4 : inB q.gram 1 p.gram
    case true.true.true.true =>
     have HS' := hide (HS.out (by simp [boxB, h1, h2, h3, h4]))
     clear HF HS
     go_wp2_with ((go_at_call 31; refine (l1In_any _ _ _ _).mono ?_; rintro e w' ⟨rfl, rfl⟩))
     go_roundw
     case rel => exact ⟨k + 1, by omega, by go_num, unhide HS', unhide HB1, unhide HK1, hz1⟩
     case measure => simp [intOf]; omega
    all_goals
     have HF' := hide (boxesB_fell (HF.out (by simp [boxB, *])))
     clear HF HS
     go_wp2_with ((go_at_call 31; refine (l1In_any _ _ _ _).mono ?_; rintro e w' ⟨rfl, rfl⟩))
     go_ret
     exact ⟨bx_ret (unhide HF').symm, unhide HB1⟩
  · have HW : Hid (true = boxesB p xs) := by rw [Hid, boxesB_all (p := p) (bx_whole (boxB p) xs k (by rw [HR.out.1]; omega) HA.out), unhide HPT]
    clear hbel
    go_wp2_with fail
    go_ret
    exact ⟨bx_ret HW.out, unhide HB⟩
set_option maxHeartbeats 1000000 in
theorem areaOf_any (a : Option Addr) (n c : Nat) (xs : List BoxV) (w : World) (hr : RdR BoxV.cells 4 w a n xs) (hn : n ≤ 1048576) :
 Calls Try.prog 21 #[.slice a n c] w fun e w' => e = .returned (.int .i64 (areaR xs)) ∧ Below w.heap.size w w' := by
 have HR := hide hr
 clear hr
 go_enter Try.func21, Try.ntmps21
 go_wp2
 go_loopw [3, 8] (fun s i wr => ∃ (k : Nat) (t : Int), k ≤ n ∧ i = .int .i64 k ∧ s = .int .i64 t ∧ t = areaR (xs.take k) ∧ Below w.heap.size w wr) (fun _ i _ => n - (intOf i).toNat)
 case atStart => exact ⟨0, 0, Nat.zero_le _, rfl, rfl, by simp [areaR], Below.refl _ _⟩
 case round =>
  obtain ⟨k, t, hk, rfl, rfl, ht, hbel⟩ := hrel
  have HT := hide ht
  have HB := hide hbel
  by_cases hlt : k < n
  · obtain ⟨b, off, rfl, hc⟩ := HR.out.2 k hlt
    have htb := areaR_take xs k n HR.out.1 hn
    rw [← ht] at htb
    have HST := hide (area_step xs k (by rw [HR.out.1]; exact hlt))
    generalize xs.getD k default = q at hc HST
    have d0 : wr.cell? ⟨b, off + k * 4, none⟩ = some (.int .i64 q.wd) := (hbel.cell (World.block_lt_of_cell? w _ (hc 0 (by omega)))).trans (hc 0 (by omega))
    have d1 : wr.cell? ⟨b, off + k * 4 + 1, none⟩ = some (.int .i64 q.dp) := (hbel.cell (World.block_lt_of_cell? w _ (hc 1 (by omega)))).trans (hc 1 (by omega))
    have d2 : wr.cell? ⟨b, off + k * 4 + 2, none⟩ = some (.int .i64 q.ht) := (hbel.cell (World.block_lt_of_cell? w _ (hc 2 (by omega)))).trans (hc 2 (by omega))
    have d3 : wr.cell? ⟨b, off + k * 4 + 3, none⟩ = some (.int .i64 q.gram) := (hbel.cell (World.block_lt_of_cell? w _ (hc 3 (by omega)))).trans (hc 3 (by omega))
    have hxb := areaB_bd q
    have HB1 := hide (HB.out.alloc HB.out.size (.cells #[.int .i64 q.wd, .int .i64 q.dp, .int .i64 q.ht, .int .i64 q.gram] 52))
    clear hc hbel ht HB
    go_wp2_with fail
    refine (volume_any _ _ _ _).mono ?_
    rintro e w1 ⟨rfl, hw⟩
    subst w1
    have HE : Hid (t + vol q.wd 1 q.dp = areaR (xs.take (k + 1))) := by rw [Hid, unhide HST, unhide HT]; rfl
    have hv : vol q.wd 1 q.dp = areaB q := rfl
    rw [hv] at HE ⊢
    clear HST HT hv
    go_wp2_with fail
    go_roundw
    case rel => exact ⟨k + 1, _, by omega, by go_num, rfl, by first | exact unhide HE | (have := unhide HE; go_num), unhide HB1⟩
    case measure => simp [intOf]; omega
  · have HE : Hid (t = areaR xs) := by rw [Hid, unhide HT, List.take_of_length_le (by rw [HR.out.1]; omega)]
    clear hbel ht
    go_wp2
    go_ret
    exact ⟨bx_num HE.out, unhide HB⟩
set_option maxHeartbeats 1000000 in
theorem specAreaOf_any (a : Option Addr) (n c : Nat) (xs : List BoxV) (w : World) (hr : RdR BoxV.cells 4 w a n xs) (hn : n ≤ 1048576) :
 Calls Try.prog 20 #[.slice a n c] w fun e w' => e = .returned (.int .i64 (areaR xs)) ∧ Below w.heap.size w w' := by
 have HR := hide hr
 clear hr
 go_enter Try.func20, Try.ntmps20
 go_wp2
 go_loopw [3, 4] (fun s i wr => ∃ (k : Nat) (t : Int), k ≤ n ∧ i = .int .i64 k ∧ s = .int .i64 t ∧ t = areaR (xs.take k) ∧ Below w.heap.size w wr) (fun _ i _ => n - (intOf i).toNat)
 case atStart => exact ⟨0, 0, Nat.zero_le _, rfl, rfl, by simp [areaR], Below.refl _ _⟩
 case round =>
  obtain ⟨k, t, hk, rfl, rfl, ht, hbel⟩ := hrel
  have HT := hide ht
  have HB := hide hbel
  by_cases hlt : k < n
  · obtain ⟨b, off, rfl, hc⟩ := HR.out.2 k hlt
    have htb := areaR_take xs k n HR.out.1 hn
    rw [← ht] at htb
    have HST := hide (area_step xs k (by rw [HR.out.1]; exact hlt))
    generalize xs.getD k default = q at hc HST
    have d0 : wr.cell? ⟨b, off + k * 4, none⟩ = some (.int .i64 q.wd) := (hbel.cell (World.block_lt_of_cell? w _ (hc 0 (by omega)))).trans (hc 0 (by omega))
    have d1 : wr.cell? ⟨b, off + k * 4 + 1, none⟩ = some (.int .i64 q.dp) := (hbel.cell (World.block_lt_of_cell? w _ (hc 1 (by omega)))).trans (hc 1 (by omega))
    have hxb := areaB_bd q
    obtain ⟨x, hx⟩ : ∃ x, x = areaB q := ⟨_, rfl⟩
    rw [← hx] at hxb HST
    clear hc hbel ht
    cases h1 : inB q.wd 0 2000
    case' true => cases h2 : inB q.dp 0 2000
    case true.true =>
     have he : q.wd * q.dp = x := by rw [hx]; exact (area_in h1 h2).symm
     have i1 := inB_iff.1 h1
     have i2 := inB_iff.1 h2
     have hd : HB.out.drew = HB.out.drew := rfl
     have HBD := hide HB.out.drew
     clear HB hd
     go_wp2_with (first | (go_at_call 31; refine (l1In_any _ _ _ _).mono ?_; rintro e w' ⟨rfl, rfl⟩) | go_region)
     all_goals
      go_roundw
      case rel => exact ⟨k + 1, t + x, by omega, by go_num, by rw [← he]; go_num, by rw [unhide HST, unhide HT], unhide HBD⟩
      case measure => simp [intOf]; omega
    all_goals
     have hx0 : x = 0 := by rw [hx]; exact vol_out (by simp [h1, *])
     go_wp2_with ((go_at_call 31; refine (l1In_any _ _ _ _).mono ?_; rintro e w' ⟨rfl, rfl⟩))
     go_roundw
     case rel => exact ⟨k + 1, t, by omega, by go_num, rfl, by rw [unhide HST, hx0, unhide HT]; omega, unhide HB⟩
     case measure => simp [intOf]; omega
  · have HE : Hid (t = areaR xs) := by rw [Hid, unhide HT, List.take_of_length_le (by rw [HR.out.1]; omega)]
    clear hbel ht
    go_wp2
    go_ret
    exact ⟨bx_num HE.out, unhide HB⟩
end Go.Proofs.Ytcblpoeeembniaa
