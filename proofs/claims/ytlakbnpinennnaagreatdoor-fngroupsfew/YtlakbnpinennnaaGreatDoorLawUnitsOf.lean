/- The law of FnExactUnitsOf, walked. -/
import Derived.Test.YtlakbnpinennnaaGreatDoorUnitsOfImpl
import Derived.Test.YtlakbnpinennnaaGreatDoorSpecUnitsOf
import Derived.Test.YtlakbnpinennnaaGreatDoorPkH
import Derived.Test.YtlakbnpinennnaaGreatDoorPkE
import Derived.Deep.DeepMust
import Derived.Deep.DeepCutAuto
namespace Go.Proofs.YtlakbnpinennnaaGreatDoor
open Go.RowKit
set_option linter.unusedVariables false
/-- A slice of numbers that is nil, of none, or owned. -/
def OwnA (w : World) (B : Nat) (a : Option Addr) (n c : Nat) (L : List Int) : Prop := (a = none ∧ n = 0 ∧ c = 0 ∧ L = []) ∨ ∃ g, a = some ⟨g, 0, none⟩ ∧ w.ownsRow B 3 1 (.slice (some ⟨g, 0, none⟩) n c) n (ci L)
theorem OwnA.later {w w' : World} {B : Nat} {a : Option Addr} {n c : Nat} {L : List Int} (h : OwnA w B a n c L) (hb : Below w.heap.size w w') : OwnA w' B a n c L := by
  rcases h with h | ⟨g, e, h⟩
  · exact .inl h
  · exact .inr ⟨g, e, own_later h hb⟩
theorem OwnA.read {w : World} {B : Nat} {a : Option Addr} {n c : Nat} {L : List Int} (h : OwnA w B a n c L) : Rd w a n L := by
  rcases h with ⟨rfl, rfl, rfl, rfl⟩ | ⟨g, rfl, h⟩
  · exact ⟨rfl, fun i hi => absurd hi (Nat.not_lt_zero _)⟩
  · exact Rd.of_owns h
theorem OwnA.turn {w w' : World} {B : Nat} {a : Option Addr} {n c gp gt gi : Nat} {L : List Int} (h : OwnA w B a n c L) (t : Turn3 w w' gp gt gi) (h1 : gp < B) (h2 : gt < B) (h3 : gi < B) : OwnA w' B a n c L := by
  rcases h with h | ⟨g, e, h⟩
  · exact .inl h
  · have := own_base h
    exact .inr ⟨g, e, t.own h (by omega) (by omega) (by omega)⟩
theorem markIntS_nil (k0 : Nat) (w : World) (hk1 : k0 ≤ 100000000) : Calls Tryz.prog 30 #[.slice none 0 0, .int .i64 (k0 : Int)] w fun e w' => e = .returned (.int .i64 (k0 : Int)) ∧ w' = w := by
  go_enter Tryz.func30, Tryz.ntmps30
  go_wp2
  refine wp_loop_rounds 1 ?_
  rw [rounds_succ]
  go_wp2
  go_ret
  exact ⟨rfl, rfl⟩
theorem markIntS_opt (B : Nat) (a : Option Addr) (n c k0 : Nat) (L : List Int) (w : World) (h : OwnA w B a n c L) (hn : n ≤ 1048577) (hk1 : k0 ≤ 100000000) (hB : B ≤ w.heap.size) :
    Calls Tryz.prog 30 #[.slice a n c, .int .i64 (k0 : Int)] w fun e w' => e = .returned (.int .i64 ((k0 + n : Nat) : Int)) ∧ OwnA w' B a n c (marksI k0 n) ∧ Below B w w' := by
  rcases h with ⟨rfl, rfl, rfl, rfl⟩ | ⟨g, rfl, h⟩
  · refine (markIntS_nil k0 w hk1).mono ?_
    rintro e w' ⟨rfl, rfl⟩
    exact ⟨rfl, .inl ⟨rfl, rfl, rfl, rfl⟩, Below.refl _ _⟩
  · have hg := own_base h
    refine (markIntS_any B g n c k0 L w h hn hk1).mono ?_
    rintro e w' ⟨rfl, hm, hgr⟩
    exact ⟨rfl, .inr ⟨g, rfl, hm⟩, (Below.refl _ _).grown hgr hB (fun b hb => by injection hb with hb; omega)⟩
theorem unitsOf_opt (r : ReqV) (h : ReqH) (k : Int) (w : World) (hr : RdReq w r h) (hs : r.small) (hg : ErrT w) :
    Calls Tryz.prog 15 #[reqVal r h, .int .i64 k] w fun e w' => ∃ a c, e = .returned (.slice a (unitsOfR r k).length c) ∧ OwnA w' w.heap.size a (unitsOfR r k).length c (unitsOfR r k) ∧ Below w.heap.size w w' := by
  refine (unitsOf_any r h k w hr hs hg).mono ?_
  rintro e w' ⟨v, rfl, ht, hb⟩
  rcases ht with ⟨rfl, hz⟩ | ⟨g, cap, rfl, ho⟩
  · rw [hz]
    exact ⟨none, 0, rfl, .inl ⟨rfl, rfl, rfl, rfl⟩, hb⟩
  · exact ⟨_, cap, rfl, .inr ⟨g, rfl, ho⟩, hb⟩
set_option maxRecDepth 100000 in
set_option maxHeartbeats 4000000 in
theorem law_unitsOf (r : ReqV) (h : ReqH) (k : Int) (w : World) (hr : RdReq w r h) (hp : r.pairs.length ≤ maxLen) (ht : r.types.length ≤ maxLen) (hi : r.items.length ≤ maxLen) (hg : ErrT w) :
    Calls Tryz.prog 8 #[reqVal r h, .int .i64 k] w fun e w' => e = .returned (.bool true) ∧ Below w.heap.size w w' := by
  have hL12 : (unitsOfR r k).length ≤ 12 := unitsOfR_len r k
  by_cases hs : (1048576 : Int) - r.pairs.length - r.types.length - r.items.length < 0
  · unfold reqVal
    go_enter Tryz.func8, Tryz.ntmps8
    go_wp2_with fail
    refine (szRequest_any r h _ _ (by omega) (by omega) hp ht hi).mono ?_
    rintro e w1 ⟨rfl, hb1⟩
    rw [if_pos (by omega)]
    have H1 : Hid (Below w.heap.size w w1) := ((Below.refl w.heap.size w).alloc (Nat.le_refl _) _).trans (hb1.mono (by simp))
    clear hb1
    go_wp2_with fail
    go_ret
    exact ⟨rfl, unhide H1⟩
  have hsm : r.small := by unfold ReqV.small; omega
  have htl : r.types.length ≤ 1048600 := by unfold ReqV.small at hsm; omega
  unfold reqVal
  go_enter Tryz.func8, Tryz.ntmps8
  go_wp2_with fail
  have hb : Below w.heap.size w (w.alloc (.cells #[.int .i64 r.way, .int .i64 r.pal.wd, .int .i64 r.pal.dp, .int .i64 r.pal.ht, .int .i64 r.pal.gram, .int .i64 r.classes, .slice h.ap r.pairs.length h.cp, .slice h.at' r.types.length h.ct, .int .i64 r.master, .slice h.ai r.items.length h.ci] 49)) := (Below.refl _ _).alloc (Nat.le_refl _) _
  have Kaw1 : Hid (Blk (w.alloc (.cells #[.int .i64 r.way, .int .i64 r.pal.wd, .int .i64 r.pal.dp, .int .i64 r.pal.ht, .int .i64 r.pal.gram, .int .i64 r.classes, .slice h.ap r.pairs.length h.cp, .slice h.at' r.types.length h.ct, .int .i64 r.master, .slice h.ai r.items.length h.ci] 49)) w.heap.size [.int .i64 r.way, .int .i64 r.pal.wd, .int .i64 r.pal.dp, .int .i64 r.pal.ht, .int .i64 r.pal.gram, .int .i64 r.classes, .slice h.ap r.pairs.length h.cp, .slice h.at' r.types.length h.ct, .int .i64 r.master, .slice h.ai r.items.length h.ci]) := Blk.allocAt [.int .i64 r.way, .int .i64 r.pal.wd, .int .i64 r.pal.dp, .int .i64 r.pal.ht, .int .i64 r.pal.gram, .int .i64 r.classes, .slice h.ap r.pairs.length h.cp, .slice h.at' r.types.length h.ct, .int .i64 r.master, .slice h.ai r.items.length h.ci] rfl
  have zaw1 : w.heap.size < (w.alloc (.cells #[.int .i64 r.way, .int .i64 r.pal.wd, .int .i64 r.pal.dp, .int .i64 r.pal.ht, .int .i64 r.pal.gram, .int .i64 r.classes, .slice h.ap r.pairs.length h.cp, .slice h.at' r.types.length h.ct, .int .i64 r.master, .slice h.ai r.items.length h.ci] 49)).heap.size := by simp
  generalize (w.alloc (.cells #[.int .i64 r.way, .int .i64 r.pal.wd, .int .i64 r.pal.dp, .int .i64 r.pal.ht, .int .i64 r.pal.gram, .int .i64 r.classes, .slice h.ap r.pairs.length h.cp, .slice h.at' r.types.length h.ct, .int .i64 r.master, .slice h.ai r.items.length h.ci] 49)) = w1 at *
  have Hw1 : Hid (Below w.heap.size w w1) := hb
  clear hb
  have Qrw1 : Hid (RdReq w1 r h) := hr.mono (unhide Hw1)
  refine (szRequest_any r h _ _ (by omega) (by omega) hp ht hi).mono ?_
  rintro e w2 ⟨rfl, hbw2⟩
  have Hw2 : Hid (Below w.heap.size w w2) := (unhide Hw1).trans (hbw2.mono (unhide Hw1).size)
  have Kaw2 := hide (Blk.below hbw2 zaw1 (unhide Kaw1))
  have zaw2 : w.heap.size < w2.heap.size := Nat.lt_of_lt_of_le zaw1 hbw2.size
  have Qrw2 : Hid (RdReq w2 r h) := (unhide Qrw1).mono hbw2
  clear Hw1 Kaw1 zaw1 Qrw1
  clear hbw2
  rw [if_neg (by omega)]
  have Qgw2 : Hid (ErrT w2) := hg.later (unhide Hw2)
  have aw2_0 : w2.cell? ⟨w.heap.size, 0, none⟩ = some (.int .i64 r.way) := ((unhide Kaw2) 0 (by simp)).1
  have aw2_1 : w2.cell? ⟨w.heap.size, 1, none⟩ = some (.int .i64 r.pal.wd) := ((unhide Kaw2) 1 (by simp)).1
  have aw2_2 : w2.cell? ⟨w.heap.size, 2, none⟩ = some (.int .i64 r.pal.dp) := ((unhide Kaw2) 2 (by simp)).1
  have aw2_3 : w2.cell? ⟨w.heap.size, 3, none⟩ = some (.int .i64 r.pal.ht) := ((unhide Kaw2) 3 (by simp)).1
  have aw2_4 : w2.cell? ⟨w.heap.size, 4, none⟩ = some (.int .i64 r.pal.gram) := ((unhide Kaw2) 4 (by simp)).1
  have aw2_5 : w2.cell? ⟨w.heap.size, 5, none⟩ = some (.int .i64 r.classes) := ((unhide Kaw2) 5 (by simp)).1
  have aw2_6 : w2.cell? ⟨w.heap.size, 6, none⟩ = some (.slice h.ap r.pairs.length h.cp) := ((unhide Kaw2) 6 (by simp)).1
  have aw2_7 : w2.cell? ⟨w.heap.size, 7, none⟩ = some (.slice h.at' r.types.length h.ct) := ((unhide Kaw2) 7 (by simp)).1
  have aw2_8 : w2.cell? ⟨w.heap.size, 8, none⟩ = some (.int .i64 r.master) := ((unhide Kaw2) 8 (by simp)).1
  have aw2_9 : w2.cell? ⟨w.heap.size, 9, none⟩ = some (.slice h.ai r.items.length h.ci) := ((unhide Kaw2) 9 (by simp)).1
  go_wp2_with fail
  refine (toRequest_any r h _ (unhide Qrw2) hsm).mono ?_
  rintro e w3 ⟨h3, rfl, hq, hf, hbw3⟩
  clear aw2_0 aw2_1 aw2_2 aw2_3 aw2_4 aw2_5 aw2_6 aw2_7 aw2_8 aw2_9
  have Hw3 : Hid (Below w.heap.size w w3) := (unhide Hw2).trans (hbw3.mono (unhide Hw2).size)
  have Kaw3 := hide (Blk.below hbw3 zaw2 (unhide Kaw2))
  have zaw3 : w.heap.size < w3.heap.size := Nat.lt_of_lt_of_le zaw2 hbw3.size
  have Qrw3 : Hid (RdReq w3 r h) := (unhide Qrw2).mono hbw3
  have Qgw3 : Hid (ErrT w3) := (unhide Qgw2).later hbw3
  clear Hw2 Kaw2 zaw2 Qrw2 Qgw2
  clear hbw3
  have Qc3w3 : Hid (RdReq w3 r h3) := hq
  clear hq hf
  unfold reqVal
  go_wp2_with fail
  refine (specUnitsOf_any r h3 k _ (unhide Qc3w3) hsm).mono ?_
  rintro e w4 ⟨g0, cap0, rfl, hw0, hbw4⟩
  have Hw4 : Hid (Below w.heap.size w w4) := (unhide Hw3).trans (hbw4.mono (unhide Hw3).size)
  have Kaw4 := hide (Blk.below hbw4 zaw3 (unhide Kaw3))
  have zaw4 : w.heap.size < w4.heap.size := Nat.lt_of_lt_of_le zaw3 hbw4.size
  have Qrw4 : Hid (RdReq w4 r h) := (unhide Qrw3).mono hbw4
  have Qgw4 : Hid (ErrT w4) := (unhide Qgw3).later hbw4
  have Qc3w4 : Hid (RdReq w4 r h3) := (unhide Qc3w3).mono hbw4
  clear Hw3 Kaw3 zaw3 Qrw3 Qgw3 Qc3w3
  clear hbw4
  have Qww4 : Hid (Rd w4 (some ⟨g0, 0, none⟩) ((unitsOfR r k).length) ((unitsOfR r k))) := Rd.of_owns hw0
  clear hw0
  clear Qc3w4
  have SH : Hid (Below w.heap.size w w4) := Hw4
  have SK := Kaw4
  have Sz : w.heap.size < w4.heap.size := zaw4
  have SW := Qww4
  have aw4_0 : w4.cell? ⟨w.heap.size, 0, none⟩ = some (.int .i64 r.way) := ((unhide Kaw4) 0 (by simp)).1
  have aw4_1 : w4.cell? ⟨w.heap.size, 1, none⟩ = some (.int .i64 r.pal.wd) := ((unhide Kaw4) 1 (by simp)).1
  have aw4_2 : w4.cell? ⟨w.heap.size, 2, none⟩ = some (.int .i64 r.pal.dp) := ((unhide Kaw4) 2 (by simp)).1
  have aw4_3 : w4.cell? ⟨w.heap.size, 3, none⟩ = some (.int .i64 r.pal.ht) := ((unhide Kaw4) 3 (by simp)).1
  have aw4_4 : w4.cell? ⟨w.heap.size, 4, none⟩ = some (.int .i64 r.pal.gram) := ((unhide Kaw4) 4 (by simp)).1
  have aw4_5 : w4.cell? ⟨w.heap.size, 5, none⟩ = some (.int .i64 r.classes) := ((unhide Kaw4) 5 (by simp)).1
  have aw4_6 : w4.cell? ⟨w.heap.size, 6, none⟩ = some (.slice h.ap r.pairs.length h.cp) := ((unhide Kaw4) 6 (by simp)).1
  have aw4_7 : w4.cell? ⟨w.heap.size, 7, none⟩ = some (.slice h.at' r.types.length h.ct) := ((unhide Kaw4) 7 (by simp)).1
  have aw4_8 : w4.cell? ⟨w.heap.size, 8, none⟩ = some (.int .i64 r.master) := ((unhide Kaw4) 8 (by simp)).1
  have aw4_9 : w4.cell? ⟨w.heap.size, 9, none⟩ = some (.slice h.ai r.items.length h.ci) := ((unhide Kaw4) 9 (by simp)).1
  go_wp2_with fail
  refine (toRequest_own3 r h _ (unhide Qrw4) hsm).mono ?_
  rintro e w5 ⟨h5, gp, gt, gi, rfl, hq, ho, hb⟩
  clear aw4_0 aw4_1 aw4_2 aw4_3 aw4_4 aw4_5 aw4_6 aw4_7 aw4_8 aw4_9
  obtain ⟨x1, x2, x3⟩ : w4.heap.size ≤ gp ∧ gp < gt ∧ gt < gi := ⟨ho.2.1, ho.2.2.1, ho.2.2.2.1⟩
  have Hw5 : Hid (Below w.heap.size w w5) := (unhide Hw4).trans (hb.mono (unhide Hw4).size)
  have Kaw5 := hide (Blk.below hb zaw4 (unhide Kaw4))
  have zaw5 : w.heap.size < w5.heap.size := Nat.lt_of_lt_of_le zaw4 hb.size
  have Qrw5 : Hid (RdReq w5 r h) := (unhide Qrw4).mono hb
  have Qgw5 : Hid (ErrT w5) := (unhide Qgw4).later hb
  have Qww5 : Hid (Rd w5 (some ⟨g0, 0, none⟩) ((unitsOfR r k).length) ((unitsOfR r k))) := Rd.mono (unhide Qww4) hb
  clear Hw4 Kaw4 zaw4 Qrw4 Qgw4 Qww4
  have Qc5w5 : Hid (RdReq w5 r h5) := hq
  have Qow5 : Hid (OwnReq w5 w4.heap.size r h5 gp gt gi) := ho
  have Qpw5 : Hid (Below w4.heap.size w4 w5) := hb
  clear hq ho hb
  unfold reqVal
  go_wp2_with fail
  have hb : Below w5.heap.size w5 (w5.alloc (.cells #[.int .i64 r.way, .int .i64 r.pal.wd, .int .i64 r.pal.dp, .int .i64 r.pal.ht, .int .i64 r.pal.gram, .int .i64 r.classes, .slice h5.ap r.pairs.length h5.cp, .slice h5.at' r.types.length h5.ct, .int .i64 r.master, .slice h5.ai r.items.length h5.ci] 30)) := (Below.refl _ _).alloc (Nat.le_refl _) _
  have Kxw6 : Hid (Blk (w5.alloc (.cells #[.int .i64 r.way, .int .i64 r.pal.wd, .int .i64 r.pal.dp, .int .i64 r.pal.ht, .int .i64 r.pal.gram, .int .i64 r.classes, .slice h5.ap r.pairs.length h5.cp, .slice h5.at' r.types.length h5.ct, .int .i64 r.master, .slice h5.ai r.items.length h5.ci] 30)) w5.heap.size [.int .i64 r.way, .int .i64 r.pal.wd, .int .i64 r.pal.dp, .int .i64 r.pal.ht, .int .i64 r.pal.gram, .int .i64 r.classes, .slice h5.ap r.pairs.length h5.cp, .slice h5.at' r.types.length h5.ct, .int .i64 r.master, .slice h5.ai r.items.length h5.ci]) := Blk.allocAt [.int .i64 r.way, .int .i64 r.pal.wd, .int .i64 r.pal.dp, .int .i64 r.pal.ht, .int .i64 r.pal.gram, .int .i64 r.classes, .slice h5.ap r.pairs.length h5.cp, .slice h5.at' r.types.length h5.ct, .int .i64 r.master, .slice h5.ai r.items.length h5.ci] rfl
  have zxw6 : w5.heap.size < (w5.alloc (.cells #[.int .i64 r.way, .int .i64 r.pal.wd, .int .i64 r.pal.dp, .int .i64 r.pal.ht, .int .i64 r.pal.gram, .int .i64 r.classes, .slice h5.ap r.pairs.length h5.cp, .slice h5.at' r.types.length h5.ct, .int .i64 r.master, .slice h5.ai r.items.length h5.ci] 30)).heap.size := by simp
  generalize (w5.alloc (.cells #[.int .i64 r.way, .int .i64 r.pal.wd, .int .i64 r.pal.dp, .int .i64 r.pal.ht, .int .i64 r.pal.gram, .int .i64 r.classes, .slice h5.ap r.pairs.length h5.cp, .slice h5.at' r.types.length h5.ct, .int .i64 r.master, .slice h5.ai r.items.length h5.ci] 30)) = w6 at *
  have Hw6 : Hid (Below w.heap.size w w6) := (unhide Hw5).trans (hb.mono (unhide Hw5).size)
  have Kaw6 := hide (Blk.below hb zaw5 (unhide Kaw5))
  have zaw6 : w.heap.size < w6.heap.size := Nat.lt_of_lt_of_le zaw5 hb.size
  have Qrw6 : Hid (RdReq w6 r h) := (unhide Qrw5).mono hb
  have Qgw6 : Hid (ErrT w6) := (unhide Qgw5).later hb
  have Qww6 : Hid (Rd w6 (some ⟨g0, 0, none⟩) ((unitsOfR r k).length) ((unitsOfR r k))) := Rd.mono (unhide Qww5) hb
  have Qc5w6 : Hid (RdReq w6 r h5) := (unhide Qc5w5).mono hb
  have Qow6 : Hid (OwnReq w6 w4.heap.size r h5 gp gt gi) := (unhide Qow5).later hb
  have Qpw6 : Hid (Below w4.heap.size w4 w6) := (unhide Qpw5).trans (hb.mono (unhide Qpw5).size)
  clear Hw5 Kaw5 zaw5 Qrw5 Qgw5 Qww5 Qc5w5 Qow5 Qpw5
  clear hb
  have x4 : gi < w6.heap.size := (unhide Qow6).2.2.2.2.1
  refine (unitsOf_opt r h5 k _ (unhide Qc5w6) hsm (unhide Qgw6)).mono ?_
  rintro e w7 ⟨a1, cap1, rfl, ho1, hbw7⟩
  have hzU := hbw7.size
  have Hw7 : Hid (Below w.heap.size w w7) := (unhide Hw6).trans (hbw7.mono (unhide Hw6).size)
  have Kaw7 := hide (Blk.below hbw7 zaw6 (unhide Kaw6))
  have zaw7 : w.heap.size < w7.heap.size := Nat.lt_of_lt_of_le zaw6 hbw7.size
  have Kxw7 := hide (Blk.below hbw7 zxw6 (unhide Kxw6))
  have zxw7 : w5.heap.size < w7.heap.size := Nat.lt_of_lt_of_le zxw6 hbw7.size
  have Qrw7 : Hid (RdReq w7 r h) := (unhide Qrw6).mono hbw7
  have Qgw7 : Hid (ErrT w7) := (unhide Qgw6).later hbw7
  have Qww7 : Hid (Rd w7 (some ⟨g0, 0, none⟩) ((unitsOfR r k).length) ((unitsOfR r k))) := Rd.mono (unhide Qww6) hbw7
  have Qc5w7 : Hid (RdReq w7 r h5) := (unhide Qc5w6).mono hbw7
  have Qow7 : Hid (OwnReq w7 w4.heap.size r h5 gp gt gi) := (unhide Qow6).later hbw7
  have Qpw7 : Hid (Below w4.heap.size w4 w7) := (unhide Qpw6).trans (hbw7.mono (unhide Qpw6).size)
  clear Hw6 Kaw6 zaw6 Kxw6 zxw6 Qrw6 Qgw6 Qww6 Qc5w6 Qow6 Qpw6
  clear hbw7
  have Quw7 : Hid (OwnA w7 w6.heap.size a1 ((unitsOfR r k).length) cap1 ((unitsOfR r k))) := ho1
  have Qzw7 : Hid (w6.heap.size ≤ w7.heap.size) := hzU
  clear ho1
  have aw7_0 : w7.cell? ⟨w.heap.size, 0, none⟩ = some (.int .i64 r.way) := ((unhide Kaw7) 0 (by simp)).1
  have aw7_1 : w7.cell? ⟨w.heap.size, 1, none⟩ = some (.int .i64 r.pal.wd) := ((unhide Kaw7) 1 (by simp)).1
  have aw7_2 : w7.cell? ⟨w.heap.size, 2, none⟩ = some (.int .i64 r.pal.dp) := ((unhide Kaw7) 2 (by simp)).1
  have aw7_3 : w7.cell? ⟨w.heap.size, 3, none⟩ = some (.int .i64 r.pal.ht) := ((unhide Kaw7) 3 (by simp)).1
  have aw7_4 : w7.cell? ⟨w.heap.size, 4, none⟩ = some (.int .i64 r.pal.gram) := ((unhide Kaw7) 4 (by simp)).1
  have aw7_5 : w7.cell? ⟨w.heap.size, 5, none⟩ = some (.int .i64 r.classes) := ((unhide Kaw7) 5 (by simp)).1
  have aw7_6 : w7.cell? ⟨w.heap.size, 6, none⟩ = some (.slice h.ap r.pairs.length h.cp) := ((unhide Kaw7) 6 (by simp)).1
  have aw7_7 : w7.cell? ⟨w.heap.size, 7, none⟩ = some (.slice h.at' r.types.length h.ct) := ((unhide Kaw7) 7 (by simp)).1
  have aw7_8 : w7.cell? ⟨w.heap.size, 8, none⟩ = some (.int .i64 r.master) := ((unhide Kaw7) 8 (by simp)).1
  have aw7_9 : w7.cell? ⟨w.heap.size, 9, none⟩ = some (.slice h.ai r.items.length h.ci) := ((unhide Kaw7) 9 (by simp)).1
  have xw7_0 : w7.cell? ⟨w5.heap.size, 0, none⟩ = some (.int .i64 r.way) := ((unhide Kxw7) 0 (by simp)).1
  have xw7_1 : w7.cell? ⟨w5.heap.size, 1, none⟩ = some (.int .i64 r.pal.wd) := ((unhide Kxw7) 1 (by simp)).1
  have xw7_2 : w7.cell? ⟨w5.heap.size, 2, none⟩ = some (.int .i64 r.pal.dp) := ((unhide Kxw7) 2 (by simp)).1
  have xw7_3 : w7.cell? ⟨w5.heap.size, 3, none⟩ = some (.int .i64 r.pal.ht) := ((unhide Kxw7) 3 (by simp)).1
  have xw7_4 : w7.cell? ⟨w5.heap.size, 4, none⟩ = some (.int .i64 r.pal.gram) := ((unhide Kxw7) 4 (by simp)).1
  have xw7_5 : w7.cell? ⟨w5.heap.size, 5, none⟩ = some (.int .i64 r.classes) := ((unhide Kxw7) 5 (by simp)).1
  have xw7_6 : w7.cell? ⟨w5.heap.size, 6, none⟩ = some (.slice h5.ap r.pairs.length h5.cp) := ((unhide Kxw7) 6 (by simp)).1
  have xw7_7 : w7.cell? ⟨w5.heap.size, 7, none⟩ = some (.slice h5.at' r.types.length h5.ct) := ((unhide Kxw7) 7 (by simp)).1
  have xw7_8 : w7.cell? ⟨w5.heap.size, 8, none⟩ = some (.int .i64 r.master) := ((unhide Kxw7) 8 (by simp)).1
  have xw7_9 : w7.cell? ⟨w5.heap.size, 9, none⟩ = some (.slice h5.ai r.items.length h5.ci) := ((unhide Kxw7) 9 (by simp)).1
  go_wp2_with fail
  refine (eqIntS_same _ _ _ _ _ ((unitsOfR r k)) _ ((unhide Quw7).read) (unhide Qww7) (by omega)).mono ?_
  rintro e w8 ⟨rfl, hbw8⟩
  clear aw7_0 aw7_1 aw7_2 aw7_3 aw7_4 aw7_5 aw7_6 aw7_7 aw7_8 aw7_9 xw7_0 xw7_1 xw7_2 xw7_3 xw7_4 xw7_5 xw7_6 xw7_7 xw7_8 xw7_9
  have Hw8 : Hid (Below w.heap.size w w8) := (unhide Hw7).trans (hbw8.mono (unhide Hw7).size)
  have Kaw8 := hide (Blk.below hbw8 zaw7 (unhide Kaw7))
  have zaw8 : w.heap.size < w8.heap.size := Nat.lt_of_lt_of_le zaw7 hbw8.size
  have Kxw8 := hide (Blk.below hbw8 zxw7 (unhide Kxw7))
  have zxw8 : w5.heap.size < w8.heap.size := Nat.lt_of_lt_of_le zxw7 hbw8.size
  have Qrw8 : Hid (RdReq w8 r h) := (unhide Qrw7).mono hbw8
  have Qgw8 : Hid (ErrT w8) := (unhide Qgw7).later hbw8
  have Qww8 : Hid (Rd w8 (some ⟨g0, 0, none⟩) ((unitsOfR r k).length) ((unitsOfR r k))) := Rd.mono (unhide Qww7) hbw8
  have Qc5w8 : Hid (RdReq w8 r h5) := (unhide Qc5w7).mono hbw8
  have Qow8 : Hid (OwnReq w8 w4.heap.size r h5 gp gt gi) := (unhide Qow7).later hbw8
  have Qpw8 : Hid (Below w4.heap.size w4 w8) := (unhide Qpw7).trans (hbw8.mono (unhide Qpw7).size)
  have Quw8 : Hid (OwnA w8 w6.heap.size a1 ((unitsOfR r k).length) cap1 ((unitsOfR r k))) := OwnA.later (unhide Quw7) hbw8
  have Qzw8 : Hid (w6.heap.size ≤ w8.heap.size) := Nat.le_trans (unhide Qzw7) hbw8.size
  clear Hw7 Kaw7 zaw7 Kxw7 zxw7 Qrw7 Qgw7 Qww7 Qc5w7 Qow7 Qpw7 Quw7 Qzw7
  clear hbw8
  have aw8_0 : w8.cell? ⟨w.heap.size, 0, none⟩ = some (.int .i64 r.way) := ((unhide Kaw8) 0 (by simp)).1
  have aw8_1 : w8.cell? ⟨w.heap.size, 1, none⟩ = some (.int .i64 r.pal.wd) := ((unhide Kaw8) 1 (by simp)).1
  have aw8_2 : w8.cell? ⟨w.heap.size, 2, none⟩ = some (.int .i64 r.pal.dp) := ((unhide Kaw8) 2 (by simp)).1
  have aw8_3 : w8.cell? ⟨w.heap.size, 3, none⟩ = some (.int .i64 r.pal.ht) := ((unhide Kaw8) 3 (by simp)).1
  have aw8_4 : w8.cell? ⟨w.heap.size, 4, none⟩ = some (.int .i64 r.pal.gram) := ((unhide Kaw8) 4 (by simp)).1
  have aw8_5 : w8.cell? ⟨w.heap.size, 5, none⟩ = some (.int .i64 r.classes) := ((unhide Kaw8) 5 (by simp)).1
  have aw8_6 : w8.cell? ⟨w.heap.size, 6, none⟩ = some (.slice h.ap r.pairs.length h.cp) := ((unhide Kaw8) 6 (by simp)).1
  have aw8_7 : w8.cell? ⟨w.heap.size, 7, none⟩ = some (.slice h.at' r.types.length h.ct) := ((unhide Kaw8) 7 (by simp)).1
  have aw8_8 : w8.cell? ⟨w.heap.size, 8, none⟩ = some (.int .i64 r.master) := ((unhide Kaw8) 8 (by simp)).1
  have aw8_9 : w8.cell? ⟨w.heap.size, 9, none⟩ = some (.slice h.ai r.items.length h.ci) := ((unhide Kaw8) 9 (by simp)).1
  have xw8_0 : w8.cell? ⟨w5.heap.size, 0, none⟩ = some (.int .i64 r.way) := ((unhide Kxw8) 0 (by simp)).1
  have xw8_1 : w8.cell? ⟨w5.heap.size, 1, none⟩ = some (.int .i64 r.pal.wd) := ((unhide Kxw8) 1 (by simp)).1
  have xw8_2 : w8.cell? ⟨w5.heap.size, 2, none⟩ = some (.int .i64 r.pal.dp) := ((unhide Kxw8) 2 (by simp)).1
  have xw8_3 : w8.cell? ⟨w5.heap.size, 3, none⟩ = some (.int .i64 r.pal.ht) := ((unhide Kxw8) 3 (by simp)).1
  have xw8_4 : w8.cell? ⟨w5.heap.size, 4, none⟩ = some (.int .i64 r.pal.gram) := ((unhide Kxw8) 4 (by simp)).1
  have xw8_5 : w8.cell? ⟨w5.heap.size, 5, none⟩ = some (.int .i64 r.classes) := ((unhide Kxw8) 5 (by simp)).1
  have xw8_6 : w8.cell? ⟨w5.heap.size, 6, none⟩ = some (.slice h5.ap r.pairs.length h5.cp) := ((unhide Kxw8) 6 (by simp)).1
  have xw8_7 : w8.cell? ⟨w5.heap.size, 7, none⟩ = some (.slice h5.at' r.types.length h5.ct) := ((unhide Kxw8) 7 (by simp)).1
  have xw8_8 : w8.cell? ⟨w5.heap.size, 8, none⟩ = some (.int .i64 r.master) := ((unhide Kxw8) 8 (by simp)).1
  have xw8_9 : w8.cell? ⟨w5.heap.size, 9, none⟩ = some (.slice h5.ai r.items.length h5.ci) := ((unhide Kxw8) 9 (by simp)).1
  have DX : Hid (Blk w8.drew w5.heap.size [.int .i64 r.way, .int .i64 r.pal.wd, .int .i64 r.pal.dp, .int .i64 r.pal.ht, .int .i64 r.pal.gram, .int .i64 r.classes, .slice h5.ap r.pairs.length h5.cp, .slice h5.at' r.types.length h5.ct, .int .i64 r.master, .slice h5.ai r.items.length h5.ci]) := unhide Kxw8
  have DQ : Hid (RdReq w8.drew r h) := (unhide Qrw8).mono (Below.refl _ _).drew
  have DC : Hid (RdReq w8.drew r h5) := (unhide Qc5w8).mono (Below.refl _ _).drew
  have DB : Hid (Below w8.heap.size w8 w8.drew) := (Below.refl _ _).drew
  go_upto_region 10 with fail
  go_cut [35] (fun v wc => v = .bool false ∧ Below w8.heap.size w8 wc)
  case first =>
    go_region_with (first
      | (go_at_call 26; go_must (refine (toRequest_any r h _ (by exact unhide DQ) hsm).mono ?_; rintro e u1 ⟨y1, rfl, hq, hf, hb⟩; have Q1 := hide hq; have B1 := hide hb; have X1 := Blk.below hb (by exact zxw8) (unhide DX); have y0 : u1.cell? ⟨w5.heap.size, 0, none⟩ = some (.int .i64 r.way) := (X1 0 (by simp)).1; have yy1 : u1.cell? ⟨w5.heap.size, 1, none⟩ = some (.int .i64 r.pal.wd) := (X1 1 (by simp)).1; have y2 : u1.cell? ⟨w5.heap.size, 2, none⟩ = some (.int .i64 r.pal.dp) := (X1 2 (by simp)).1; have y3 : u1.cell? ⟨w5.heap.size, 3, none⟩ = some (.int .i64 r.pal.ht) := (X1 3 (by simp)).1; have y4 : u1.cell? ⟨w5.heap.size, 4, none⟩ = some (.int .i64 r.pal.gram) := (X1 4 (by simp)).1; have y5 : u1.cell? ⟨w5.heap.size, 5, none⟩ = some (.int .i64 r.classes) := (X1 5 (by simp)).1; have y6 : u1.cell? ⟨w5.heap.size, 6, none⟩ = some (.slice h5.ap r.pairs.length h5.cp) := (X1 6 (by simp)).1; have y7 : u1.cell? ⟨w5.heap.size, 7, none⟩ = some (.slice h5.at' r.types.length h5.ct) := (X1 7 (by simp)).1; have y8 : u1.cell? ⟨w5.heap.size, 8, none⟩ = some (.int .i64 r.master) := (X1 8 (by simp)).1; have y9 : u1.cell? ⟨w5.heap.size, 9, none⟩ = some (.slice h5.ai r.items.length h5.ci) := (X1 9 (by simp)).1; clear hq hf hb X1))
      | (go_at_call 28; go_must (refine (eqRequest_same r h5 y1 _ (by exact (unhide DC).mono (unhide B1)) (by exact unhide Q1) hsm).mono ?_; rintro e u2 ⟨rfl, hb⟩; have B2 := hide hb; clear hb)))
    all_goals
      go_wp2_with fail
      go_meet
      case rel => exact ⟨rfl, ((unhide DB).trans ((unhide B1).mono (unhide DB).size)).trans ((unhide B2).mono ((unhide DB).trans ((unhide B1).mono (unhide DB).size)).size)⟩
  case rest =>
    obtain ⟨rfl, hb0⟩ := hcut
    clear aw8_0 aw8_1 aw8_2 aw8_3 aw8_4 aw8_5 aw8_6 aw8_7 aw8_8 aw8_9 xw8_0 xw8_1 xw8_2 xw8_3 xw8_4 xw8_5 xw8_6 xw8_7 xw8_8 xw8_9
    clear DX DQ DC DB
    obtain ⟨w9, hw8⟩ : ∃ w8 : World, w8 = wc := ⟨_, rfl⟩
    subst wc
    have Hw9 : Hid (Below w.heap.size w w9) := (unhide Hw8).trans (hb0.mono (unhide Hw8).size)
    have Kaw9 := hide (Blk.below hb0 zaw8 (unhide Kaw8))
    have zaw9 : w.heap.size < w9.heap.size := Nat.lt_of_lt_of_le zaw8 hb0.size
    have Kxw9 := hide (Blk.below hb0 zxw8 (unhide Kxw8))
    have zxw9 : w5.heap.size < w9.heap.size := Nat.lt_of_lt_of_le zxw8 hb0.size
    have Qrw9 : Hid (RdReq w9 r h) := (unhide Qrw8).mono hb0
    have Qgw9 : Hid (ErrT w9) := (unhide Qgw8).later hb0
    have Qww9 : Hid (Rd w9 (some ⟨g0, 0, none⟩) ((unitsOfR r k).length) ((unitsOfR r k))) := Rd.mono (unhide Qww8) hb0
    have Qc5w9 : Hid (RdReq w9 r h5) := (unhide Qc5w8).mono hb0
    have Qow9 : Hid (OwnReq w9 w4.heap.size r h5 gp gt gi) := (unhide Qow8).later hb0
    have Qpw9 : Hid (Below w4.heap.size w4 w9) := (unhide Qpw8).trans (hb0.mono (unhide Qpw8).size)
    have Quw9 : Hid (OwnA w9 w6.heap.size a1 ((unitsOfR r k).length) cap1 ((unitsOfR r k))) := OwnA.later (unhide Quw8) hb0
    have Qzw9 : Hid (w6.heap.size ≤ w9.heap.size) := Nat.le_trans (unhide Qzw8) hb0.size
    clear Hw8 Kaw8 zaw8 Kxw8 zxw8 Qrw8 Qgw8 Qww8 Qc5w8 Qow8 Qpw8 Quw8 Qzw8
    clear hb0
    have aw9_0 : w9.cell? ⟨w.heap.size, 0, none⟩ = some (.int .i64 r.way) := ((unhide Kaw9) 0 (by simp)).1
    have aw9_1 : w9.cell? ⟨w.heap.size, 1, none⟩ = some (.int .i64 r.pal.wd) := ((unhide Kaw9) 1 (by simp)).1
    have aw9_2 : w9.cell? ⟨w.heap.size, 2, none⟩ = some (.int .i64 r.pal.dp) := ((unhide Kaw9) 2 (by simp)).1
    have aw9_3 : w9.cell? ⟨w.heap.size, 3, none⟩ = some (.int .i64 r.pal.ht) := ((unhide Kaw9) 3 (by simp)).1
    have aw9_4 : w9.cell? ⟨w.heap.size, 4, none⟩ = some (.int .i64 r.pal.gram) := ((unhide Kaw9) 4 (by simp)).1
    have aw9_5 : w9.cell? ⟨w.heap.size, 5, none⟩ = some (.int .i64 r.classes) := ((unhide Kaw9) 5 (by simp)).1
    have aw9_6 : w9.cell? ⟨w.heap.size, 6, none⟩ = some (.slice h.ap r.pairs.length h.cp) := ((unhide Kaw9) 6 (by simp)).1
    have aw9_7 : w9.cell? ⟨w.heap.size, 7, none⟩ = some (.slice h.at' r.types.length h.ct) := ((unhide Kaw9) 7 (by simp)).1
    have aw9_8 : w9.cell? ⟨w.heap.size, 8, none⟩ = some (.int .i64 r.master) := ((unhide Kaw9) 8 (by simp)).1
    have aw9_9 : w9.cell? ⟨w.heap.size, 9, none⟩ = some (.slice h.ai r.items.length h.ci) := ((unhide Kaw9) 9 (by simp)).1
    have xw9_0 : w9.cell? ⟨w5.heap.size, 0, none⟩ = some (.int .i64 r.way) := ((unhide Kxw9) 0 (by simp)).1
    have xw9_1 : w9.cell? ⟨w5.heap.size, 1, none⟩ = some (.int .i64 r.pal.wd) := ((unhide Kxw9) 1 (by simp)).1
    have xw9_2 : w9.cell? ⟨w5.heap.size, 2, none⟩ = some (.int .i64 r.pal.dp) := ((unhide Kxw9) 2 (by simp)).1
    have xw9_3 : w9.cell? ⟨w5.heap.size, 3, none⟩ = some (.int .i64 r.pal.ht) := ((unhide Kxw9) 3 (by simp)).1
    have xw9_4 : w9.cell? ⟨w5.heap.size, 4, none⟩ = some (.int .i64 r.pal.gram) := ((unhide Kxw9) 4 (by simp)).1
    have xw9_5 : w9.cell? ⟨w5.heap.size, 5, none⟩ = some (.int .i64 r.classes) := ((unhide Kxw9) 5 (by simp)).1
    have xw9_6 : w9.cell? ⟨w5.heap.size, 6, none⟩ = some (.slice h5.ap r.pairs.length h5.cp) := ((unhide Kxw9) 6 (by simp)).1
    have xw9_7 : w9.cell? ⟨w5.heap.size, 7, none⟩ = some (.slice h5.at' r.types.length h5.ct) := ((unhide Kxw9) 7 (by simp)).1
    have xw9_8 : w9.cell? ⟨w5.heap.size, 8, none⟩ = some (.int .i64 r.master) := ((unhide Kxw9) 8 (by simp)).1
    have xw9_9 : w9.cell? ⟨w5.heap.size, 9, none⟩ = some (.slice h5.ai r.items.length h5.ci) := ((unhide Kxw9) 9 (by simp)).1
    go_wp2_with fail
    refine (markRequest_any _ r h5 gp gt gi 1 _ (unhide Qow9) hsm (by omega)).mono ?_
    rintro e w10 ⟨km, rfl, hkm, ht3⟩
    clear aw9_0 aw9_1 aw9_2 aw9_3 aw9_4 aw9_5 aw9_6 aw9_7 aw9_8 aw9_9 xw9_0 xw9_1 xw9_2 xw9_3 xw9_4 xw9_5 xw9_6 xw9_7 xw9_8 xw9_9
    have hz3 := ht3.size
    have Pw10 : Hid (Below w4.heap.size w4 w10) := ht3.below (unhide Qpw9) (Nat.le_refl _) x1 (by omega) (by omega)
    have ho9 := (unhide Quw9).turn ht3 (by omega) (by omega) (by omega)
    have hzV := Nat.le_trans (unhide Qzw9) ht3.size
    have hneg : ¬ ((km : Nat) : Int) < 0 := by omega
    clear Hw9 Kaw9 zaw9 Kxw9 zxw9 Qrw9 Qgw9 Qww9 Qc5w9 Qow9 Qpw9 Quw9 Qzw9
    have Hw10 : Hid (Below w.heap.size w w10) := (unhide SH).trans ((unhide Pw10).mono (unhide SH).size)
    have Kaw10 := hide (Blk.below (unhide Pw10) Sz (unhide SK))
    have zaw10 : w.heap.size < w10.heap.size := Nat.lt_of_lt_of_le Sz (unhide Pw10).size
    have Qrw10 : Hid (RdReq w10 r h) := hr.mono (unhide Hw10)
    have Qgw10 : Hid (ErrT w10) := hg.later (unhide Hw10)
    have Qww10 : Hid (Rd w10 (some ⟨g0, 0, none⟩) ((unitsOfR r k).length) ((unitsOfR r k))) := Rd.mono (unhide SW) (unhide Pw10)
    have Qpw10 : Hid (Below w4.heap.size w4 w10) := unhide Pw10
    have Quw10 : Hid (OwnA w10 w6.heap.size a1 ((unitsOfR r k).length) cap1 ((unitsOfR r k))) := ho9
    have Qzw10 : Hid (w6.heap.size ≤ w10.heap.size) := hzV
    clear ho9 ht3 Pw10
    have aw10_0 : w10.cell? ⟨w.heap.size, 0, none⟩ = some (.int .i64 r.way) := ((unhide Kaw10) 0 (by simp)).1
    have aw10_1 : w10.cell? ⟨w.heap.size, 1, none⟩ = some (.int .i64 r.pal.wd) := ((unhide Kaw10) 1 (by simp)).1
    have aw10_2 : w10.cell? ⟨w.heap.size, 2, none⟩ = some (.int .i64 r.pal.dp) := ((unhide Kaw10) 2 (by simp)).1
    have aw10_3 : w10.cell? ⟨w.heap.size, 3, none⟩ = some (.int .i64 r.pal.ht) := ((unhide Kaw10) 3 (by simp)).1
    have aw10_4 : w10.cell? ⟨w.heap.size, 4, none⟩ = some (.int .i64 r.pal.gram) := ((unhide Kaw10) 4 (by simp)).1
    have aw10_5 : w10.cell? ⟨w.heap.size, 5, none⟩ = some (.int .i64 r.classes) := ((unhide Kaw10) 5 (by simp)).1
    have aw10_6 : w10.cell? ⟨w.heap.size, 6, none⟩ = some (.slice h.ap r.pairs.length h.cp) := ((unhide Kaw10) 6 (by simp)).1
    have aw10_7 : w10.cell? ⟨w.heap.size, 7, none⟩ = some (.slice h.at' r.types.length h.ct) := ((unhide Kaw10) 7 (by simp)).1
    have aw10_8 : w10.cell? ⟨w.heap.size, 8, none⟩ = some (.int .i64 r.master) := ((unhide Kaw10) 8 (by simp)).1
    have aw10_9 : w10.cell? ⟨w.heap.size, 9, none⟩ = some (.slice h.ai r.items.length h.ci) := ((unhide Kaw10) 9 (by simp)).1
    go_wp2_with fail
    refine (eqIntS_same _ _ _ _ _ ((unitsOfR r k)) _ ((unhide Quw10).read) (unhide Qww10) (by omega)).mono ?_
    rintro e w11 ⟨rfl, hbw11⟩
    clear aw10_0 aw10_1 aw10_2 aw10_3 aw10_4 aw10_5 aw10_6 aw10_7 aw10_8 aw10_9
    have Hw11 : Hid (Below w.heap.size w w11) := (unhide Hw10).trans (hbw11.mono (unhide Hw10).size)
    have Kaw11 := hide (Blk.below hbw11 zaw10 (unhide Kaw10))
    have zaw11 : w.heap.size < w11.heap.size := Nat.lt_of_lt_of_le zaw10 hbw11.size
    have Qrw11 : Hid (RdReq w11 r h) := (unhide Qrw10).mono hbw11
    have Qgw11 : Hid (ErrT w11) := (unhide Qgw10).later hbw11
    have Qww11 : Hid (Rd w11 (some ⟨g0, 0, none⟩) ((unitsOfR r k).length) ((unitsOfR r k))) := Rd.mono (unhide Qww10) hbw11
    have Qpw11 : Hid (Below w4.heap.size w4 w11) := (unhide Qpw10).trans (hbw11.mono (unhide Qpw10).size)
    have Quw11 : Hid (OwnA w11 w6.heap.size a1 ((unitsOfR r k).length) cap1 ((unitsOfR r k))) := OwnA.later (unhide Quw10) hbw11
    have Qzw11 : Hid (w6.heap.size ≤ w11.heap.size) := Nat.le_trans (unhide Qzw10) hbw11.size
    clear Hw10 Kaw10 zaw10 Qrw10 Qgw10 Qww10 Qpw10 Quw10 Qzw10
    clear hbw11
    have aw11_0 : w11.cell? ⟨w.heap.size, 0, none⟩ = some (.int .i64 r.way) := ((unhide Kaw11) 0 (by simp)).1
    have aw11_1 : w11.cell? ⟨w.heap.size, 1, none⟩ = some (.int .i64 r.pal.wd) := ((unhide Kaw11) 1 (by simp)).1
    have aw11_2 : w11.cell? ⟨w.heap.size, 2, none⟩ = some (.int .i64 r.pal.dp) := ((unhide Kaw11) 2 (by simp)).1
    have aw11_3 : w11.cell? ⟨w.heap.size, 3, none⟩ = some (.int .i64 r.pal.ht) := ((unhide Kaw11) 3 (by simp)).1
    have aw11_4 : w11.cell? ⟨w.heap.size, 4, none⟩ = some (.int .i64 r.pal.gram) := ((unhide Kaw11) 4 (by simp)).1
    have aw11_5 : w11.cell? ⟨w.heap.size, 5, none⟩ = some (.int .i64 r.classes) := ((unhide Kaw11) 5 (by simp)).1
    have aw11_6 : w11.cell? ⟨w.heap.size, 6, none⟩ = some (.slice h.ap r.pairs.length h.cp) := ((unhide Kaw11) 6 (by simp)).1
    have aw11_7 : w11.cell? ⟨w.heap.size, 7, none⟩ = some (.slice h.at' r.types.length h.ct) := ((unhide Kaw11) 7 (by simp)).1
    have aw11_8 : w11.cell? ⟨w.heap.size, 8, none⟩ = some (.int .i64 r.master) := ((unhide Kaw11) 8 (by simp)).1
    have aw11_9 : w11.cell? ⟨w.heap.size, 9, none⟩ = some (.slice h.ai r.items.length h.ci) := ((unhide Kaw11) 9 (by simp)).1
    go_wp2_with fail
    refine (markIntS_opt _ a1 _ cap1 1 ((unitsOfR r k)) _ (unhide Quw11) (by omega) (by omega) (unhide Qzw11)).mono ?_
    rintro e w12 ⟨rfl, hm, hg1⟩
    clear aw11_0 aw11_1 aw11_2 aw11_3 aw11_4 aw11_5 aw11_6 aw11_7 aw11_8 aw11_9
    have hz4 := hg1.size
    have Pw12 : Hid (Below w4.heap.size w4 w12) := (unhide Qpw11).trans (hg1.mono (by omega))
    clear Hw11 Kaw11 zaw11 Qrw11 Qgw11 Qww11 Qpw11 Quw11 Qzw11
    have Hw12 : Hid (Below w.heap.size w w12) := (unhide SH).trans ((unhide Pw12).mono (unhide SH).size)
    have Kaw12 := hide (Blk.below (unhide Pw12) Sz (unhide SK))
    have zaw12 : w.heap.size < w12.heap.size := Nat.lt_of_lt_of_le Sz (unhide Pw12).size
    have Qrw12 : Hid (RdReq w12 r h) := hr.mono (unhide Hw12)
    have Qgw12 : Hid (ErrT w12) := hg.later (unhide Hw12)
    have Qww12 : Hid (Rd w12 (some ⟨g0, 0, none⟩) ((unitsOfR r k).length) ((unitsOfR r k))) := Rd.mono (unhide SW) (unhide Pw12)
    have Qmw12 : Hid (OwnA w12 w6.heap.size a1 ((unitsOfR r k).length) cap1 (marksI 1 ((unitsOfR r k).length))) := hm
    clear hm hg1 Pw12
    generalize hT : 1 + (unitsOfR r k).length = T
    have HT := hide hT
    have hT0 : ¬ ((T : Nat) : Int) < 0 := by omega
    have hT1 : (((T : Nat) : Int) != ((T : Nat) : Int)) = false := by simp
    clear hT
    have aw12_0 : w12.cell? ⟨w.heap.size, 0, none⟩ = some (.int .i64 r.way) := ((unhide Kaw12) 0 (by simp)).1
    have aw12_1 : w12.cell? ⟨w.heap.size, 1, none⟩ = some (.int .i64 r.pal.wd) := ((unhide Kaw12) 1 (by simp)).1
    have aw12_2 : w12.cell? ⟨w.heap.size, 2, none⟩ = some (.int .i64 r.pal.dp) := ((unhide Kaw12) 2 (by simp)).1
    have aw12_3 : w12.cell? ⟨w.heap.size, 3, none⟩ = some (.int .i64 r.pal.ht) := ((unhide Kaw12) 3 (by simp)).1
    have aw12_4 : w12.cell? ⟨w.heap.size, 4, none⟩ = some (.int .i64 r.pal.gram) := ((unhide Kaw12) 4 (by simp)).1
    have aw12_5 : w12.cell? ⟨w.heap.size, 5, none⟩ = some (.int .i64 r.classes) := ((unhide Kaw12) 5 (by simp)).1
    have aw12_6 : w12.cell? ⟨w.heap.size, 6, none⟩ = some (.slice h.ap r.pairs.length h.cp) := ((unhide Kaw12) 6 (by simp)).1
    have aw12_7 : w12.cell? ⟨w.heap.size, 7, none⟩ = some (.slice h.at' r.types.length h.ct) := ((unhide Kaw12) 7 (by simp)).1
    have aw12_8 : w12.cell? ⟨w.heap.size, 8, none⟩ = some (.int .i64 r.master) := ((unhide Kaw12) 8 (by simp)).1
    have aw12_9 : w12.cell? ⟨w.heap.size, 9, none⟩ = some (.slice h.ai r.items.length h.ci) := ((unhide Kaw12) 9 (by simp)).1
    go_wp2_with fail
    refine (heldIntS_any _ _ _ 1 _ ((unhide Qmw12).read) (by omega) (by omega)).mono ?_
    rintro e w9 ⟨rfl, hw9⟩
    subst w9
    rw [unhide HT]
    go_wp2_with fail
    refine (toRequest_any r h _ (unhide Qrw12) hsm).mono ?_
    rintro e w13 ⟨h13, rfl, hq, hf, hbw13⟩
    clear aw12_0 aw12_1 aw12_2 aw12_3 aw12_4 aw12_5 aw12_6 aw12_7 aw12_8 aw12_9
    have Hw13 : Hid (Below w.heap.size w w13) := (unhide Hw12).trans (hbw13.mono (unhide Hw12).size)
    have Kaw13 := hide (Blk.below hbw13 zaw12 (unhide Kaw12))
    have zaw13 : w.heap.size < w13.heap.size := Nat.lt_of_lt_of_le zaw12 hbw13.size
    have Qrw13 : Hid (RdReq w13 r h) := (unhide Qrw12).mono hbw13
    have Qgw13 : Hid (ErrT w13) := (unhide Qgw12).later hbw13
    have Qww13 : Hid (Rd w13 (some ⟨g0, 0, none⟩) ((unitsOfR r k).length) ((unitsOfR r k))) := Rd.mono (unhide Qww12) hbw13
    have Qmw13 : Hid (OwnA w13 w6.heap.size a1 ((unitsOfR r k).length) cap1 (marksI 1 ((unitsOfR r k).length))) := OwnA.later (unhide Qmw12) hbw13
    clear Hw12 Kaw12 zaw12 Qrw12 Qgw12 Qww12 Qmw12
    clear hbw13
    have Qc13w13 : Hid (RdReq w13 r h13) := hq
    clear hq hf
    unfold reqVal
    go_wp2_with fail
    refine (unitsOf_opt r h13 k _ (unhide Qc13w13) hsm (unhide Qgw13)).mono ?_
    rintro e w14 ⟨a2, cap2, rfl, ho2, hbw14⟩
    have Hw14 : Hid (Below w.heap.size w w14) := (unhide Hw13).trans (hbw14.mono (unhide Hw13).size)
    have Kaw14 := hide (Blk.below hbw14 zaw13 (unhide Kaw13))
    have zaw14 : w.heap.size < w14.heap.size := Nat.lt_of_lt_of_le zaw13 hbw14.size
    have Qrw14 : Hid (RdReq w14 r h) := (unhide Qrw13).mono hbw14
    have Qgw14 : Hid (ErrT w14) := (unhide Qgw13).later hbw14
    have Qww14 : Hid (Rd w14 (some ⟨g0, 0, none⟩) ((unitsOfR r k).length) ((unitsOfR r k))) := Rd.mono (unhide Qww13) hbw14
    have Qmw14 : Hid (OwnA w14 w6.heap.size a1 ((unitsOfR r k).length) cap1 (marksI 1 ((unitsOfR r k).length))) := OwnA.later (unhide Qmw13) hbw14
    have Qc13w14 : Hid (RdReq w14 r h13) := (unhide Qc13w13).mono hbw14
    clear Hw13 Kaw13 zaw13 Qrw13 Qgw13 Qww13 Qmw13 Qc13w13
    clear hbw14
    have Qvw14 : Hid (Rd w14 a2 ((unitsOfR r k).length) ((unitsOfR r k))) := ho2.read
    clear ho2
    have aw14_0 : w14.cell? ⟨w.heap.size, 0, none⟩ = some (.int .i64 r.way) := ((unhide Kaw14) 0 (by simp)).1
    have aw14_1 : w14.cell? ⟨w.heap.size, 1, none⟩ = some (.int .i64 r.pal.wd) := ((unhide Kaw14) 1 (by simp)).1
    have aw14_2 : w14.cell? ⟨w.heap.size, 2, none⟩ = some (.int .i64 r.pal.dp) := ((unhide Kaw14) 2 (by simp)).1
    have aw14_3 : w14.cell? ⟨w.heap.size, 3, none⟩ = some (.int .i64 r.pal.ht) := ((unhide Kaw14) 3 (by simp)).1
    have aw14_4 : w14.cell? ⟨w.heap.size, 4, none⟩ = some (.int .i64 r.pal.gram) := ((unhide Kaw14) 4 (by simp)).1
    have aw14_5 : w14.cell? ⟨w.heap.size, 5, none⟩ = some (.int .i64 r.classes) := ((unhide Kaw14) 5 (by simp)).1
    have aw14_6 : w14.cell? ⟨w.heap.size, 6, none⟩ = some (.slice h.ap r.pairs.length h.cp) := ((unhide Kaw14) 6 (by simp)).1
    have aw14_7 : w14.cell? ⟨w.heap.size, 7, none⟩ = some (.slice h.at' r.types.length h.ct) := ((unhide Kaw14) 7 (by simp)).1
    have aw14_8 : w14.cell? ⟨w.heap.size, 8, none⟩ = some (.int .i64 r.master) := ((unhide Kaw14) 8 (by simp)).1
    have aw14_9 : w14.cell? ⟨w.heap.size, 9, none⟩ = some (.slice h.ai r.items.length h.ci) := ((unhide Kaw14) 9 (by simp)).1
    go_wp2_with fail
    refine (eqIntS_same _ _ _ _ _ ((unitsOfR r k)) _ (unhide Qvw14) (unhide Qww14) (by omega)).mono ?_
    rintro e w15 ⟨rfl, hbw15⟩
    clear aw14_0 aw14_1 aw14_2 aw14_3 aw14_4 aw14_5 aw14_6 aw14_7 aw14_8 aw14_9
    have Hw15 : Hid (Below w.heap.size w w15) := (unhide Hw14).trans (hbw15.mono (unhide Hw14).size)
    have Kaw15 := hide (Blk.below hbw15 zaw14 (unhide Kaw14))
    have zaw15 : w.heap.size < w15.heap.size := Nat.lt_of_lt_of_le zaw14 hbw15.size
    have Qrw15 : Hid (RdReq w15 r h) := (unhide Qrw14).mono hbw15
    have Qgw15 : Hid (ErrT w15) := (unhide Qgw14).later hbw15
    have Qww15 : Hid (Rd w15 (some ⟨g0, 0, none⟩) ((unitsOfR r k).length) ((unitsOfR r k))) := Rd.mono (unhide Qww14) hbw15
    have Qmw15 : Hid (OwnA w15 w6.heap.size a1 ((unitsOfR r k).length) cap1 (marksI 1 ((unitsOfR r k).length))) := OwnA.later (unhide Qmw14) hbw15
    have Qc13w15 : Hid (RdReq w15 r h13) := (unhide Qc13w14).mono hbw15
    have Qvw15 : Hid (Rd w15 a2 ((unitsOfR r k).length) ((unitsOfR r k))) := Rd.mono (unhide Qvw14) hbw15
    clear Hw14 Kaw14 zaw14 Qrw14 Qgw14 Qww14 Qmw14 Qc13w14 Qvw14
    clear hbw15
    have aw15_0 : w15.cell? ⟨w.heap.size, 0, none⟩ = some (.int .i64 r.way) := ((unhide Kaw15) 0 (by simp)).1
    have aw15_1 : w15.cell? ⟨w.heap.size, 1, none⟩ = some (.int .i64 r.pal.wd) := ((unhide Kaw15) 1 (by simp)).1
    have aw15_2 : w15.cell? ⟨w.heap.size, 2, none⟩ = some (.int .i64 r.pal.dp) := ((unhide Kaw15) 2 (by simp)).1
    have aw15_3 : w15.cell? ⟨w.heap.size, 3, none⟩ = some (.int .i64 r.pal.ht) := ((unhide Kaw15) 3 (by simp)).1
    have aw15_4 : w15.cell? ⟨w.heap.size, 4, none⟩ = some (.int .i64 r.pal.gram) := ((unhide Kaw15) 4 (by simp)).1
    have aw15_5 : w15.cell? ⟨w.heap.size, 5, none⟩ = some (.int .i64 r.classes) := ((unhide Kaw15) 5 (by simp)).1
    have aw15_6 : w15.cell? ⟨w.heap.size, 6, none⟩ = some (.slice h.ap r.pairs.length h.cp) := ((unhide Kaw15) 6 (by simp)).1
    have aw15_7 : w15.cell? ⟨w.heap.size, 7, none⟩ = some (.slice h.at' r.types.length h.ct) := ((unhide Kaw15) 7 (by simp)).1
    have aw15_8 : w15.cell? ⟨w.heap.size, 8, none⟩ = some (.int .i64 r.master) := ((unhide Kaw15) 8 (by simp)).1
    have aw15_9 : w15.cell? ⟨w.heap.size, 9, none⟩ = some (.slice h.ai r.items.length h.ci) := ((unhide Kaw15) 9 (by simp)).1
    go_wp2_with fail
    refine (heldIntS_any _ _ _ 1 _ ((unhide Qmw15).read) (by omega) (by omega)).mono ?_
    rintro e w9 ⟨rfl, hw9⟩
    subst w9
    rw [unhide HT]
    go_wp2_with fail
    go_ret
    exact ⟨rfl, unhide Hw15⟩
end Go.Proofs.YtlakbnpinennnaaGreatDoor
