/- Present of the model. -/
import Derived.Test.YtcblpoeeembniabGreatDoorSpecUnits
namespace Go.Proofs.YtcblpoeeembniabGreatDoor
open Go.RowKit
set_option linter.unusedVariables false
set_option linter.unusedSimpArgs false

def isKind (c : Int) (q : ItemV) : Bool := q.cls == c
def presTo (xs : List ItemV) (k : Nat) : List Int := (kinds.take k).filter fun c => xs.any fun q => q.cls == c
theorem presTo_step (xs : List ItemV) (k : Nat) (hk : k < 4) : presTo xs (k + 1) = presTo xs k ++ (if xs.any (isKind (k : Int)) then [(k : Int)] else []) := by
 unfold presTo
 have : kinds.take (k + 1) = kinds.take k ++ [(k : Int)] := by
  match k, hk with
  | 0, _ => rfl
  | 1, _ => rfl
  | 2, _ => rfl
  | 3, _ => rfl
 rw [this, List.filter_append]
 congr 1
 have e : (xs.any fun q => q.cls == (k : Int)) = xs.any (isKind (k : Int)) := rfl
 cases h : xs.any (isKind (k : Int)) <;> simp [e, h]
theorem presTo_four (xs : List ItemV) : presTo xs 4 = presentL xs := rfl
theorem presTo_len (xs : List ItemV) (k : Nat) : (presTo xs k).length ≤ 4 := by
 have h1 := List.length_filter_le (fun c => xs.any fun q => q.cls == c) (kinds.take k)
 have h2 : (kinds.take k).length ≤ 4 := by rw [List.length_take]; exact Nat.min_le_right _ _
 unfold presTo
 omega

set_option maxRecDepth 100000 in
set_option maxHeartbeats 4000000 in
theorem specPresent_any (r : ReqV) (h : ReqH) (w : World) (hr : RdReq w r h) (hs : r.small) :
 Calls Tryz.prog 135 #[reqVal r h] w fun e w' => ∃ g cap, e = .returned (.slice (some ⟨g, 0, none⟩) (presentR r).length cap) ∧ w'.ownsRow w.heap.size 3 1 (.slice (some ⟨g, 0, none⟩) (presentR r).length cap) (presentR r).length (ci (presentR r)) ∧ Below w.heap.size w w' := by
 obtain ⟨i0, hi, hz0, hz1, hz2⟩ := info_parts Tryz.infoInt
 have HR := hide hr
 clear hr
 unfold reqVal
 go_enter Tryz.func135, Tryz.ntmps135
 go_wp2_with fail
 have KA : Hid (Blk ((w.alloc (.cells #[.int .i64 r.way, .int .i64 r.pal.wd, .int .i64 r.pal.dp, .int .i64 r.pal.ht, .int .i64 r.pal.gram, .int .i64 r.classes, .slice h.ap r.pairs.length h.cp, .slice h.at' r.types.length h.ct, .int .i64 r.master, .slice h.ai r.items.length h.ci] 41)).alloc (.cells #[] 3)) w.heap.size [.int .i64 r.way, .int .i64 r.pal.wd, .int .i64 r.pal.dp, .int .i64 r.pal.ht, .int .i64 r.pal.gram, .int .i64 r.classes, .slice h.ap r.pairs.length h.cp, .slice h.at' r.types.length h.ct, .int .i64 r.master, .slice h.ai r.items.length h.ci]) := (Blk.allocAt [.int .i64 r.way, .int .i64 r.pal.wd, .int .i64 r.pal.dp, .int .i64 r.pal.ht, .int .i64 r.pal.gram, .int .i64 r.classes, .slice h.ap r.pairs.length h.cp, .slice h.at' r.types.length h.ct, .int .i64 r.master, .slice h.ai r.items.length h.ci] rfl).allocOld (by simp) _
 have O1 : Hid (((w.alloc (.cells #[.int .i64 r.way, .int .i64 r.pal.wd, .int .i64 r.pal.dp, .int .i64 r.pal.ht, .int .i64 r.pal.gram, .int .i64 r.classes, .slice h.ap r.pairs.length h.cp, .slice h.at' r.types.length h.ct, .int .i64 r.master, .slice h.ai r.items.length h.ci] 41)).alloc (.cells #[] 3)).ownsRow (w.heap.size + 1) 3 1 (.slice (some ⟨w.heap.size + 1, 0, none⟩) 0 0) 0 []) := by
  have := World.ownsRow_lit (e := 3) (w.alloc (.cells #[.int .i64 r.way, .int .i64 r.pal.wd, .int .i64 r.pal.dp, .int .i64 r.pal.ht, .int .i64 r.pal.gram, .int .i64 r.classes, .slice h.ap r.pairs.length h.cp, .slice h.at' r.types.length h.ct, .int .i64 r.master, .slice h.ai r.items.length h.ci] 41)) #[] 0 (base := w.heap.size + 1) (size := 1) (by simp) (Nat.zero_le _) rfl
  rw [World.size_alloc] at this
  exact this
 have H1 : Hid (Below w.heap.size w ((w.alloc (.cells #[.int .i64 r.way, .int .i64 r.pal.wd, .int .i64 r.pal.dp, .int .i64 r.pal.ht, .int .i64 r.pal.gram, .int .i64 r.classes, .slice h.ap r.pairs.length h.cp, .slice h.at' r.types.length h.ct, .int .i64 r.master, .slice h.ai r.items.length h.ci] 41)).alloc (.cells #[] 3))) := ((Below.refl _ _).alloc (Nat.le_refl _) _).alloc (by simp) _
 have z1 : w.heap.size + 1 < ((w.alloc (.cells #[.int .i64 r.way, .int .i64 r.pal.wd, .int .i64 r.pal.dp, .int .i64 r.pal.ht, .int .i64 r.pal.gram, .int .i64 r.classes, .slice h.ap r.pairs.length h.cp, .slice h.at' r.types.length h.ct, .int .i64 r.master, .slice h.ai r.items.length h.ci] 41)).alloc (.cells #[] 3)).heap.size := by simp
 generalize ((w.alloc (.cells #[.int .i64 r.way, .int .i64 r.pal.wd, .int .i64 r.pal.dp, .int .i64 r.pal.ht, .int .i64 r.pal.gram, .int .i64 r.classes, .slice h.ap r.pairs.length h.cp, .slice h.at' r.types.length h.ct, .int .i64 r.master, .slice h.ai r.items.length h.ci] 41)).alloc (.cells #[] 3)) = w1 at *
 refine (specClass_any r h w1 (HR.out.mono H1.out) hs).mono ?_
 rintro e w2 ⟨rfl, hb2⟩
 have O2 := hide (own_later O1.out hb2)
 have H2 := hide (H1.out.trans (hb2.mono H1.out.size))
 have K2 := hide (Blk.below hb2 (by omega) KA.out)
 have z2 : w.heap.size + 1 < w2.heap.size := Nat.lt_of_lt_of_le z1 hb2.size
 clear hb2 O1 H1 KA z1
 by_cases hz : classI r = 0
 case neg =>
  have HZ := hide (show presentR r = [] by rw [presentR, itemsR_not hz]; rfl)
  have hne : (classI r != 0) = true := by simp [hz]
  clear HR K2
  go_wp2
  go_ret
  refine ⟨w.heap.size + 1, 0, by rw [unhide HZ]; rfl, ?_, unhide H2⟩
  rw [unhide HZ]
  exact World.ownsRow.mono O2.out (Nat.le_succ _)
 have HZ := hide (show presentR r = presentL r.items by rw [presentR, itemsR_zero hz])
 have hm8 := (good_items hz).len
 have HI : Hid (RdR ItemV.cells 7 w2 h.ai r.items.length r.items) := (HR.out.mono H2.out).2.2
 have HLT : Hid (0 < r.items.length → ∀ x, h.ai = some x → x.block < w.heap.size + 1) := fun hn x hx => Nat.lt_succ_of_lt (rdr_lt7 ItemV.len HR.out.2.2 hn x hx)
 rw [hz]
 clear hz HR
 go_wp2
 go_loopw [3, 4] (fun o i wr => ∃ k t g cap : Nat, k ≤ 4 ∧ t = (presTo r.items k).length ∧ i = .int .i64 k ∧ o = .slice (some ⟨g, 0, none⟩) t cap ∧ wr.ownsRow (w.heap.size + 1) 3 1 (.slice (some ⟨g, 0, none⟩) t cap) t (ci (presTo r.items k)) ∧ Below (w.heap.size + 1) w2 wr) (fun _ i _ => 4 - (intOf i).toNat)
 case atStart => exact ⟨0, 0, w.heap.size + 1, 0, Nat.zero_le _, rfl, rfl, rfl, unhide O2, Below.refl _ _⟩
 case round =>
  clear O2
  obtain ⟨k, t, g, cap, hk, ht, rfl, rfl, hown, hbel⟩ := hrel
  have hsz := hbel.size
  have ht4 : t ≤ 4 := by rw [ht]; exact presTo_len _ _
  have HT := hide ht
  have HOW := hide hown
  have HB := hide hbel
  by_cases hlk : k < 4
  case neg =>
   obtain rfl : k = 4 := by omega
   clear hown hbel ht K2
   go_wp2
   go_ret
   have e := presTo_four r.items
   have h1 := unhide HT
   have h2 := unhide HOW
   rw [e] at h1 h2
   subst h1
   refine ⟨g, cap, by rw [unhide HZ]; rfl, ?_, H2.out.trans (HB.out.mono (Nat.le_succ _))⟩
   rw [unhide HZ]
   exact World.ownsRow.mono h2 (Nat.le_succ _)
  have HST := hide (presTo_step r.items k hlk)
  have a9 : wr.cell? ⟨w.heap.size, 9, none⟩ = some (.slice h.ai r.items.length h.ci) := ((Blk.low K2.out hbel (by omega)) 9 (by simp)).1
  have HIr := hide (rdr_below HI.out hbel HLT.out)
  clear hown hbel ht
  go_wp2
  go_loop [5, 6] (fun f j => ∃ (p : Nat) (b : Bool), p ≤ r.items.length ∧ j = .int .i64 p ∧ f = .bool b ∧ (r.items.take p).any (isKind (k : Int)) = b) (fun _ j => r.items.length - (intOf j).toNat)
  case atStart => exact ⟨0, false, Nat.zero_le _, rfl, rfl, rfl⟩
  case round =>
   obtain ⟨p, b, hp, rfl, rfl, hany⟩ := hrel
   have HANY := hide hany
   clear hany
   by_cases hlp : p < r.items.length
   · have HS := hide (take_any_step r.items (isKind (k : Int)) p hlp)
     cases b
     · obtain ⟨bl, off, ha, hc⟩ := HIr.out.2 p hlp
       rw [ha] at a9
       generalize r.items.getD p default = q at hc HS
       have d5 : wr.cell? ⟨bl, off + p * 7 + 5, none⟩ = some (.int .i64 q.cls) := hc 5 (by omega)
       obtain ⟨v, hv⟩ : ∃ v : Bool, (q.cls == (k : Int)) = v := ⟨_, rfl⟩
       have HS2 : Hid ((r.items.take (p + 1)).any (isKind (k : Int)) = v) := by rw [unhide HS, unhide HANY]; exact hv
       clear hc ha
       cases v
       · go_wp2
         go_round
         case rel => exact ⟨p + 1, false, by omega, by go_num, rfl, unhide HS2⟩
         case measure => simp [intOf]; omega
       · go_wp2
         go_round
         case rel => exact ⟨p + 1, true, by omega, by go_num, rfl, unhide HS2⟩
         case measure => simp [intOf]; omega
     · have HS2 : Hid ((r.items.take (p + 1)).any (isKind (k : Int)) = true) := by rw [unhide HS, unhide HANY]; rfl
       go_wp2
       go_round
       case rel => exact ⟨p + 1, true, by omega, by go_num, rfl, unhide HS2⟩
       case measure => simp [intOf]; omega
   · have HALL : Hid (r.items.any (isKind (k : Int)) = b) := by have := unhide HANY; rwa [List.take_of_length_le (by omega)] at this
     clear HANY
     cases b
     · have HE : Hid (presTo r.items (k + 1) = presTo r.items k) := by rw [unhide HST, unhide HALL]; simp [Hid]
       go_wp2
       go_roundw
       case rel => exact ⟨k + 1, t, g, cap, by omega, by rw [unhide HE]; exact unhide HT, by go_num, rfl, by rw [unhide HE]; exact unhide HOW, unhide HB⟩
       case measure => simp [intOf]; omega
     · have HE : Hid (presTo r.items (k + 1) = presTo r.items k ++ [(k : Int)]) := by rw [unhide HST, unhide HALL]; rfl
       go_wp2_with (first
        | (at_builtin; refine wpList_append_own _ rfl _ _ 29 rfl (w.heap.size + 1) 3 i0 (.int .i64 0) 1 8 Tryz.underlying29 hi hz0 hz1 hz2 rfl (by decide) (.slice (some ⟨g, 0, none⟩) t cap) t (ci (presTo r.items k)) rfl (HOW.out.alloc _) ⟨wr.heap.size, 0, none⟩ 1 1 [.int .i64 (k : Int)] rfl rfl (cell_one_new _ _ _) (by simp [Value.oneCell']) (by unfold maxLen; omega) (by omega) (by simp; omega) ?_; intro v' w5 h1 h2 h3)
        | go_in)
       obtain ⟨g', cap', hv', ho, hb'⟩ := app_ints HT.out.symm HOW.out HB.out (by omega) h1 h2 h3
       go_roundw
       case rel => exact ⟨k + 1, t + 1, g', cap', by omega, by rw [unhide HE, List.length_append, ← unhide HT]; rfl, by go_num, hv', by rw [unhide HE]; exact ho, hb'⟩
       case measure => simp [intOf]; omega
end Go.Proofs.YtcblpoeeembniabGreatDoor
