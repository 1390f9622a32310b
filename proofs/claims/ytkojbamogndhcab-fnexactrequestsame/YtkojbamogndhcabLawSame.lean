/- The law of RequestSame, walked. -/
import Derived.Test.YtkojbamogndhcabSpecSame
import Derived.Deep.DeepMust
import Derived.Deep.DeepCutAuto
namespace Go.Proofs.Ytkojbamogndhcab
open Go.RowKit
set_option linter.unusedVariables false
def reqCells (r : ReqV) (h : ReqH) : List Value :=
  [.int .i64 r.way, .int .i64 r.pal.wd, .int .i64 r.pal.dp, .int .i64 r.pal.ht, .int .i64 r.pal.gram, .int .i64 r.classes, .slice h.ap r.pairs.length h.cp, .slice h.at' r.types.length h.ct, .int .i64 r.master, .slice h.ai r.items.length h.ci]
theorem reqFacts {w : World} {b : Nat} {r : ReqV} {h : ReqH} (H : Blk w b (reqCells r h)) :
    w.cell? ⟨b, 0, none⟩ = some (.int .i64 r.way) ∧ w.cell? ⟨b, 1, none⟩ = some (.int .i64 r.pal.wd) ∧ w.cell? ⟨b, 2, none⟩ = some (.int .i64 r.pal.dp) ∧ w.cell? ⟨b, 3, none⟩ = some (.int .i64 r.pal.ht) ∧ w.cell? ⟨b, 4, none⟩ = some (.int .i64 r.pal.gram) ∧
    w.cell? ⟨b, 5, none⟩ = some (.int .i64 r.classes) ∧ w.cell? ⟨b, 6, none⟩ = some (.slice h.ap r.pairs.length h.cp) ∧ w.cell? ⟨b, 7, none⟩ = some (.slice h.at' r.types.length h.ct) ∧ w.cell? ⟨b, 8, none⟩ = some (.int .i64 r.master) ∧ w.cell? ⟨b, 9, none⟩ = some (.slice h.ai r.items.length h.ci) :=
  ⟨(H 0 (by simp [reqCells])).1, (H 1 (by simp [reqCells])).1, (H 2 (by simp [reqCells])).1, (H 3 (by simp [reqCells])).1, (H 4 (by simp [reqCells])).1, (H 5 (by simp [reqCells])).1, (H 6 (by simp [reqCells])).1, (H 7 (by simp [reqCells])).1, (H 8 (by simp [reqCells])).1, (H 9 (by simp [reqCells])).1⟩
/-- The two boxes of the law's arguments, and all that was there, as they were. -/
structure Two (w : World) (r s : ReqV) (h g : ReqH) (wc : World) : Prop where
  a : Blk wc w.heap.size (reqCells r h)
  b : Blk wc (w.heap.size + 1) (reqCells s g)
  z : w.heap.size + 1 < wc.heap.size
  bel : Below w.heap.size w wc
theorem Two.mono {w wc w' : World} {r s : ReqV} {h g : ReqH} (t : Two w r s h g wc) (hb : Below wc.heap.size wc w') : Two w r s h g w' :=
  ⟨Blk.below hb (by have := t.z; omega) t.a, Blk.below hb t.z t.b, Nat.lt_of_lt_of_le t.z hb.size, t.bel.trans (hb.mono t.bel.size)⟩
/-- .. and the two copies that were handed to the program. -/
structure Four (w : World) (r s : ReqV) (h g : ReqH) (h6 h7 : ReqH) (g1 g2 : Nat) (wc : World) : Prop where
  two : Two w r s h g wc
  x : Blk wc g1 (reqCells r h6)
  y : Blk wc g2 (reqCells s h7)
  z1 : g1 < wc.heap.size
  z2 : g2 < wc.heap.size
  rx : RdReq wc r h6
  ry : RdReq wc s h7
theorem Four.mono {w wc w' : World} {r s : ReqV} {h g h6 h7 : ReqH} {g1 g2 : Nat} (t : Four w r s h g h6 h7 g1 g2 wc) (hb : Below wc.heap.size wc w') : Four w r s h g h6 h7 g1 g2 w' :=
  ⟨t.two.mono hb, Blk.below hb t.z1 t.x, Blk.below hb t.z2 t.y, Nat.lt_of_lt_of_le t.z1 hb.size, Nat.lt_of_lt_of_le t.z2 hb.size, t.rx.mono hb, t.ry.mono hb⟩
set_option maxHeartbeats 2000000 in
theorem law_same (r s : ReqV) (h g : ReqH) (w : World) (hr : RdReq w r h) (hg : RdReq w s g) (hp : r.pairs.length ≤ maxLen) (ht : r.types.length ≤ maxLen) (hi : r.items.length ≤ maxLen) (hp' : s.pairs.length ≤ maxLen) (ht' : s.types.length ≤ maxLen) (hi' : s.items.length ≤ maxLen) :
    Calls Try.prog 3 #[reqVal r h, reqVal s g] w fun e w' => e = .returned (.bool true) ∧ Below w.heap.size w w' := by
  have hne : (decide (r = s) != decide (r = s)) = false := by simp
  by_cases hs : (1048576 : Int) - r.pairs.length - r.types.length - r.items.length < 0
  · unfold reqVal
    go_enter Try.func3, Try.ntmps3
    go_wp2_with fail
    refine (szRequest_any r h _ _ (by omega) (by omega) hp ht hi).mono ?_
    rintro e w1 ⟨rfl, hb1⟩
    rw [if_pos (by omega)]
    have H1 : Hid (Below w.heap.size w w1) := (((Below.refl w.heap.size w).alloc (Nat.le_refl _) _).alloc (by simp) _).trans (hb1.mono (by simp; omega))
    clear hb1
    go_wp2_with fail
    go_ret
    exact ⟨rfl, unhide H1⟩
  have hsm : r.small := by unfold ReqV.small; omega
  unfold reqVal
  go_enter Try.func3, Try.ntmps3
  go_wp2_with fail
  refine (szRequest_any r h _ _ (by omega) (by omega) hp ht hi).mono ?_
  rintro e w1 ⟨rfl, hb1⟩
  rw [if_neg (by omega)]
  have T1 : Two w r s h g w1 := ⟨Blk.below hb1 (by simp; omega) ((Blk.allocAt (reqCells r h) (by simp)).allocOld (by simp) _), Blk.below hb1 (by simp) (Blk.allocAt (reqCells s g) (by simp)), by have := hb1.size; simp at this; omega, (((Below.refl w.heap.size w).alloc (Nat.le_refl _) _).alloc (by simp) _).trans (hb1.mono (by simp; omega))⟩
  have hl0 : 0 ≤ (1048576 : Int) - r.pairs.length - r.types.length - r.items.length := by omega
  have hl1 : (1048576 : Int) - r.pairs.length - r.types.length - r.items.length ≤ 1048576 := by omega
  generalize (1048576 : Int) - r.pairs.length - r.types.length - r.items.length = l at hl0 hl1 ⊢
  obtain ⟨b1_0, b1_1, b1_2, b1_3, b1_4, b1_5, b1_6, b1_7, b1_8, b1_9⟩ := reqFacts T1.b
  have HT1 := hide T1
  clear hb1 T1 hs
  go_wp2_with fail
  refine (szRequest_any s g _ _ hl0 hl1 hp' ht' hi').mono ?_
  rintro e w2 ⟨rfl, hb2⟩
  have T2 := (unhide HT1).mono hb2
  clear b1_0 b1_1 b1_2 b1_3 b1_4 b1_5 b1_6 b1_7 b1_8 b1_9
  clear hb2 HT1
  by_cases hs2 : l - s.pairs.length - s.types.length - s.items.length < 0
  · rw [if_pos hs2]
    have HT2 := hide T2
    clear T2
    go_wp2_with fail
    go_ret
    exact ⟨rfl, (unhide HT2).bel⟩
  have hsm2 : s.small := by unfold ReqV.small; omega
  rw [if_neg hs2]
  generalize l - s.pairs.length - s.types.length - s.items.length = l2 at hs2 ⊢
  obtain ⟨a2_0, a2_1, a2_2, a2_3, a2_4, a2_5, a2_6, a2_7, a2_8, a2_9⟩ := reqFacts T2.a
  obtain ⟨b2_0, b2_1, b2_2, b2_3, b2_4, b2_5, b2_6, b2_7, b2_8, b2_9⟩ := reqFacts T2.b
  have HT2 := hide T2
  clear T2
  go_upto_region 8 with fail
  go_cut [6] (fun v wc => v = .bool (decide (r = s)) ∧ Two w r s h g wc)
  case first =>
    go_region_with (first
      | (go_at_call_of 6 (Value.slice h.ap r.pairs.length h.cp); go_must (refine (toRequest_any r h _ (by exact hr.mono ((unhide HT2).mono (Below.refl _ _).drew).bel) hsm).mono ?_; rintro e w3 ⟨h3, rfl, hq3, hf3, hb3⟩; have T3 := hide (((unhide HT2).mono (Below.refl _ _).drew).mono hb3); have Q3 := hide hq3; obtain ⟨b3_0, b3_1, b3_2, b3_3, b3_4, b3_5, b3_6, b3_7, b3_8, b3_9⟩ := reqFacts (unhide T3).b; clear hq3 hf3 hb3; unfold reqVal))
      | (go_at_call_of 6 (Value.slice g.ap s.pairs.length g.cp); go_must (refine (toRequest_any s g _ (by exact hg.mono (unhide T3).bel) hsm2).mono ?_; rintro e w4 ⟨h4, rfl, hq4, hf4, hb4⟩; have T4 := hide ((unhide T3).mono hb4); have Q4 := hide hq4; have Q3b := hide ((unhide Q3).mono hb4); clear hq4 hf4 hb4; unfold reqVal))
      | (go_at_call 5; go_must (refine (specRequestSame_any r s h3 h4 _ (by exact unhide Q3b) (by exact unhide Q4) hsm hsm2).mono ?_; rintro e w5 ⟨rfl, hb5⟩; have T5 := hide ((unhide T4).mono hb5); clear hb5)))
    all_goals
      go_wp2_with fail
      go_meet
      case rel => exact ⟨rfl, unhide T5⟩
  case rest =>
    obtain ⟨rfl, T⟩ := hcut
    clear a2_0 a2_1 a2_2 a2_3 a2_4 a2_5 a2_6 a2_7 a2_8 a2_9 b2_0 b2_1 b2_2 b2_3 b2_4 b2_5 b2_6 b2_7 b2_8 b2_9
    clear HT2
    obtain ⟨a5_0, a5_1, a5_2, a5_3, a5_4, a5_5, a5_6, a5_7, a5_8, a5_9⟩ := reqFacts T.a
    obtain ⟨b5_0, b5_1, b5_2, b5_3, b5_4, b5_5, b5_6, b5_7, b5_8, b5_9⟩ := reqFacts T.b
    have HT := hide T
    clear T
    go_wp2_with fail
    refine (toRequest_any r h _ (by exact hr.mono (unhide HT).bel) hsm).mono ?_
    rintro e w6 ⟨h6, rfl, hq6, hf6, hb6⟩
    unfold reqVal
    have T6 := (unhide HT).mono hb6
    clear a5_0 a5_1 a5_2 a5_3 a5_4 a5_5 a5_6 a5_7 a5_8 a5_9 b5_0 b5_1 b5_2 b5_3 b5_4 b5_5 b5_6 b5_7 b5_8 b5_9
    obtain ⟨b6_0, b6_1, b6_2, b6_3, b6_4, b6_5, b6_6, b6_7, b6_8, b6_9⟩ := reqFacts T6.b
    have HT6 := hide T6
    have Q6 := hide hq6
    clear hq6 hf6 hb6 HT T6
    have z6 : w.heap.size + 1 < w6.heap.size := (unhide HT6).z
    go_wp2_with fail
    refine (toRequest_any s g _ (by exact hg.mono (((unhide HT6).mono ((Below.refl _ _).alloc (Nat.le_refl _) _)).bel)) hsm2).mono ?_
    rintro e w7 ⟨h7, rfl, hq7, hf7, hb7⟩
    unfold reqVal
    have T7 := ((unhide HT6).mono ((Below.refl _ _).alloc (Nat.le_refl _) _)).mono hb7
    have Q7 : RdReq w7 r h6 := ((unhide Q6).mono ((Below.refl _ _).alloc (Nat.le_refl _) _)).mono hb7
    have X7 : Blk w7 w6.heap.size (reqCells r h6) := Blk.below hb7 (by simp) (Blk.allocAt (reqCells r h6) rfl)
    have z7 : w6.heap.size < w7.heap.size := by have := hb7.size; simp at this; omega
    have F7 : Four w r s h g h6 h7 w6.heap.size w7.heap.size (w7.alloc (.cells (reqCells s h7).toArray 36)) :=
      ⟨T7.mono ((Below.refl _ _).alloc (Nat.le_refl _) _), X7.allocOld z7 _, Blk.allocAt (reqCells s h7) rfl, by simp; omega, by simp, Q7.mono ((Below.refl _ _).alloc (Nat.le_refl _) _), hq7.mono ((Below.refl _ _).alloc (Nat.le_refl _) _)⟩
    clear b6_0 b6_1 b6_2 b6_3 b6_4 b6_5 b6_6 b6_7 b6_8 b6_9
    obtain ⟨x7_0, x7_1, x7_2, x7_3, x7_4, x7_5, x7_6, x7_7, x7_8, x7_9⟩ := reqFacts X7
    have HF7 := hide F7
    clear hq7 hf7 hb7 HT6 T7 Q7 X7 F7 Q6
    go_wp2_with fail
    refine (requestSame_any r s h6 h7 _ (by exact (unhide HF7).rx) (by exact (unhide HF7).ry) hsm hsm2).mono ?_
    rintro e w8 ⟨rfl, hb8⟩
    have F8 := (unhide HF7).mono hb8
    clear x7_0 x7_1 x7_2 x7_3 x7_4 x7_5 x7_6 x7_7 x7_8 x7_9
    obtain ⟨x8_0, x8_1, x8_2, x8_3, x8_4, x8_5, x8_6, x8_7, x8_8, x8_9⟩ := reqFacts F8.x
    obtain ⟨a8_0, a8_1, a8_2, a8_3, a8_4, a8_5, a8_6, a8_7, a8_8, a8_9⟩ := reqFacts F8.two.a
    have HF8 := hide F8
    clear hb8 HF7 F8
    go_upto_region 14 with fail
    go_cut [39] (fun v wc => v = .bool false ∧ Four w r s h g h6 h7 w6.heap.size w7.heap.size wc)
    case first =>
      go_region_with (first
        | (go_at_call 6; go_must (refine (toRequest_any r h _ (by exact hr.mono ((unhide HF8).mono (Below.refl _ _).drew).two.bel) hsm).mono ?_; rintro e w9 ⟨h9, rfl, hq9, hf9, hb9⟩; have F9 := hide (((unhide HF8).mono (Below.refl _ _).drew).mono hb9); have Q9 := hide hq9; obtain ⟨x9_0, x9_1, x9_2, x9_3, x9_4, x9_5, x9_6, x9_7, x9_8, x9_9⟩ := reqFacts (unhide F9).x; clear hq9 hf9 hb9; unfold reqVal))
        | (go_at_call 8; go_must (refine (eqRequest_same r h6 h9 _ (by exact (unhide F9).rx) (by exact unhide Q9) hsm).mono ?_; rintro e w10 ⟨rfl, hb10⟩; have F10 := hide ((unhide F9).mono hb10); clear hb10)))
      all_goals
        go_wp2_with fail
        go_meet
        case rel => exact ⟨rfl, unhide F10⟩
    case rest =>
      obtain ⟨rfl, F⟩ := hcut
      clear x8_0 x8_1 x8_2 x8_3 x8_4 x8_5 x8_6 x8_7 x8_8 x8_9 a8_0 a8_1 a8_2 a8_3 a8_4 a8_5 a8_6 a8_7 a8_8 a8_9
      clear HF8
      obtain ⟨y11_0, y11_1, y11_2, y11_3, y11_4, y11_5, y11_6, y11_7, y11_8, y11_9⟩ := reqFacts F.y
      obtain ⟨b11_0, b11_1, b11_2, b11_3, b11_4, b11_5, b11_6, b11_7, b11_8, b11_9⟩ := reqFacts F.two.b
      have HF := hide F
      clear F
      go_wp2_with fail
      go_region_with (first
        | (go_at_call 6; go_must (refine (toRequest_any s g _ (by exact hg.mono ((unhide HF).mono (Below.refl _ _).drew).two.bel) hsm2).mono ?_; rintro e w12 ⟨h12, rfl, hq12, hf12, hb12⟩; have F12 := hide (((unhide HF).mono (Below.refl _ _).drew).mono hb12); have Q12 := hide hq12; obtain ⟨y12_0, y12_1, y12_2, y12_3, y12_4, y12_5, y12_6, y12_7, y12_8, y12_9⟩ := reqFacts (unhide F12).y; clear hq12 hf12 hb12; unfold reqVal))
        | (go_at_call 8; go_must (refine (eqRequest_same s h7 h12 _ (by exact (unhide F12).ry) (by exact unhide Q12) hsm2).mono ?_; rintro e w13 ⟨rfl, hb13⟩; have F13 := hide ((unhide F12).mono hb13); clear hb13)))
      all_goals
        go_wp2_with fail
        go_ret
        exact ⟨rfl, (unhide F13).two.bel⟩
end Go.Proofs.Ytkojbamogndhcab
