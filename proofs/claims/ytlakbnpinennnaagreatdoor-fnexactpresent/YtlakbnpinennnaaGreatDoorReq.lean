/- An order as a plain value: how it lies in memory; the laws' copy, size and comparison of it. -/
import Derived.Test.YtlakbnpinennnaaGreatDoorToS
import Derived.Test.YtlakbnpinennnaaGreatDoorEqS
namespace Go.Proofs.YtlakbnpinennnaaGreatDoor
open Go.RowKit
set_option linter.unusedVariables false

structure ReqV where
  (way : Int) (pal : PalletV) (classes : Int) (pairs : List PairV) (types : List TypeV) (master : Int) (items : List ItemV)
deriving Inhabited, DecidableEq
/-- Where its lists lie. -/
structure ReqH where
  (ap at' ai : Option Addr) (cp ct ci : Nat)
def reqVal (r : ReqV) (h : ReqH) : Value :=
  .agg #[.int .i64 r.way, .int .i64 r.pal.wd, .int .i64 r.pal.dp, .int .i64 r.pal.ht, .int .i64 r.pal.gram, .int .i64 r.classes, .slice h.ap r.pairs.length h.cp, .slice h.at' r.types.length h.ct, .int .i64 r.master, .slice h.ai r.items.length h.ci]
def RdReq (w : World) (r : ReqV) (h : ReqH) : Prop :=
  RdR PairV.cells 2 w h.ap r.pairs.length r.pairs ∧ RdR TypeV.cells 7 w h.at' r.types.length r.types ∧ RdR ItemV.cells 7 w h.ai r.items.length r.items
theorem RdReq.mono {w w' : World} {r : ReqV} {h : ReqH} (hr : RdReq w r h) (hb : Below w.heap.size w w') : RdReq w' r h :=
  ⟨hr.1.mono (by omega) PairV.len hb, hr.2.1.mono (by omega) TypeV.len hb, hr.2.2.mono (by omega) ItemV.len hb⟩
/-- Its lists are new memory. -/
def ReqH.fresh (B : Nat) (h : ReqH) : Prop := (∃ b, h.ap = some ⟨b, 0, none⟩ ∧ B ≤ b) ∧ (∃ b, h.at' = some ⟨b, 0, none⟩ ∧ B ≤ b) ∧ (∃ b, h.ai = some ⟨b, 0, none⟩ ∧ B ≤ b)
def ReqV.small (r : ReqV) : Prop := r.pairs.length + r.types.length + r.items.length ≤ 1048576

def reqCells (r : ReqV) (h : ReqH) : List Value :=
  [.int .i64 r.way, .int .i64 r.pal.wd, .int .i64 r.pal.dp, .int .i64 r.pal.ht, .int .i64 r.pal.gram, .int .i64 r.classes, .slice h.ap r.pairs.length h.cp, .slice h.at' r.types.length h.ct, .int .i64 r.master, .slice h.ai r.items.length h.ci]
theorem reqFacts {w : World} {b : Nat} {r : ReqV} {h : ReqH} (H : Blk w b (reqCells r h)) :
    w.cell? ⟨b, 0, none⟩ = some (.int .i64 r.way) ∧ w.cell? ⟨b, 1, none⟩ = some (.int .i64 r.pal.wd) ∧ w.cell? ⟨b, 2, none⟩ = some (.int .i64 r.pal.dp) ∧ w.cell? ⟨b, 3, none⟩ = some (.int .i64 r.pal.ht) ∧ w.cell? ⟨b, 4, none⟩ = some (.int .i64 r.pal.gram) ∧
    w.cell? ⟨b, 5, none⟩ = some (.int .i64 r.classes) ∧ w.cell? ⟨b, 6, none⟩ = some (.slice h.ap r.pairs.length h.cp) ∧ w.cell? ⟨b, 7, none⟩ = some (.slice h.at' r.types.length h.ct) ∧ w.cell? ⟨b, 8, none⟩ = some (.int .i64 r.master) ∧ w.cell? ⟨b, 9, none⟩ = some (.slice h.ai r.items.length h.ci) :=
  ⟨(H 0 (by simp [reqCells])).1, (H 1 (by simp [reqCells])).1, (H 2 (by simp [reqCells])).1, (H 3 (by simp [reqCells])).1, (H 4 (by simp [reqCells])).1, (H 5 (by simp [reqCells])).1, (H 6 (by simp [reqCells])).1, (H 7 (by simp [reqCells])).1, (H 8 (by simp [reqCells])).1, (H 9 (by simp [reqCells])).1⟩
theorem bcell {W w1 : World} (hb : Below W.heap.size W w1) : (∀ b o, b < W.heap.size → w1.cell? ⟨b, o, none⟩ = W.cell? ⟨b, o, none⟩) ∧ (∀ b o, b < W.heap.size → w1.frozen? ⟨b, o, none⟩ = W.frozen? ⟨b, o, none⟩) :=
  ⟨fun b o h => hb.cell (p := ⟨b, o, none⟩) h, fun b o h => hb.frozen (p := ⟨b, o, none⟩) h⟩
set_option maxHeartbeats 1000000 in
theorem szRequest_any (r : ReqV) (h : ReqH) (l : Int) (w : World) (h0 : 0 ≤ l) (hl : l ≤ 1048576) (hp : r.pairs.length ≤ maxLen) (ht : r.types.length ≤ maxLen) (hi : r.items.length ≤ maxLen) :
    Calls Tryz.prog 25 #[reqVal r h, .int .i64 l] w fun e w' =>
      e = .returned (.int .i64 (if l - r.pairs.length - r.types.length - r.items.length < 0 then -1 else l - r.pairs.length - r.types.length - r.items.length)) ∧ Below w.heap.size w w' := by
  unfold reqVal
  by_cases h1 : l - r.pairs.length < 0
  · rw [if_pos (by omega)]
    go_enter Tryz.func25, Tryz.ntmps25
    go_wp2_with fail
    refine (szPairS_any _ _ _ _ _ hp h0 hl).mono ?_
    rintro e w' ⟨rfl, rfl⟩
    rw [if_pos (by omega)]
    go_wp2_with fail
    go_ret
    exact ⟨rfl, (Below.refl _ _).alloc (Nat.le_refl _) _⟩
  by_cases h2 : l - r.pairs.length - r.types.length < 0
  · rw [if_pos (by omega)]
    go_enter Tryz.func25, Tryz.ntmps25
    go_wp2_with fail
    refine (szPairS_any _ _ _ _ _ hp h0 hl).mono ?_
    rintro e w' ⟨rfl, rfl⟩
    rw [if_neg (by omega)]
    go_wp2_with fail
    refine (szTypeS_any _ _ _ _ _ ht (by omega) (by omega)).mono ?_
    rintro e w' ⟨rfl, rfl⟩
    rw [if_pos (by omega)]
    go_wp2_with fail
    go_ret
    exact ⟨rfl, (Below.refl _ _).alloc (Nat.le_refl _) _⟩
  by_cases h3 : l - r.pairs.length - r.types.length - r.items.length < 0
  all_goals
    go_enter Tryz.func25, Tryz.ntmps25
    go_wp2_with fail
    refine (szPairS_any _ _ _ _ _ hp h0 hl).mono ?_
    rintro e w' ⟨rfl, rfl⟩
    rw [if_neg (by omega)]
    go_wp2_with fail
    refine (szTypeS_any _ _ _ _ _ ht (by omega) (by omega)).mono ?_
    rintro e w' ⟨rfl, rfl⟩
    rw [if_neg (by omega)]
    go_wp2_with fail
    refine (szItemS_any _ _ _ _ _ hi (by omega) (by omega)).mono ?_
    rintro e w' ⟨rfl, rfl⟩
    first | rw [if_pos (by omega)] | rw [if_neg (by omega)]
    go_wp2_with fail
    go_ret
    exact ⟨rfl, (Below.refl _ _).alloc (Nat.le_refl _) _⟩
set_option maxHeartbeats 1000000 in
theorem toRequest_any (r : ReqV) (h : ReqH) (w : World) (hr : RdReq w r h) (hs : r.small) :
    Calls Tryz.prog 26 #[reqVal r h] w fun e w' => ∃ h', e = .returned (reqVal r h') ∧ RdReq w' r h' ∧ h'.fresh w.heap.size ∧ Below w.heap.size w w' := by
  unfold ReqV.small at hs
  unfold reqVal
  obtain ⟨hp, ht, hi⟩ := hr
  go_enter Tryz.func26, Tryz.ntmps26
  go_wp2_with fail
  refine (toPallet_any _ _ _ _ _).mono ?_
  rintro e w1 ⟨rfl, hb1⟩
  have H1 : Hid (Below w.heap.size w w1) := ((((Below.refl w.heap.size w).alloc (Nat.le_refl _) _).alloc (by simp) _).alloc (by simp; omega) _).trans (hb1.mono (by simp; omega))
  have z1 : w.heap.size + 1 + 1 < w1.heap.size := by have := hb1.size; simp at this; omega
  have A1 : Blk w1 w.heap.size [.int .i64 r.way, .int .i64 r.pal.wd, .int .i64 r.pal.dp, .int .i64 r.pal.ht, .int .i64 r.pal.gram, .int .i64 r.classes, .slice h.ap r.pairs.length h.cp, .slice h.at' r.types.length h.ct, .int .i64 r.master, .slice h.ai r.items.length h.ci] := Blk.below hb1 (by simp; omega) (((Blk.allocAt [.int .i64 r.way, .int .i64 r.pal.wd, .int .i64 r.pal.dp, .int .i64 r.pal.ht, .int .i64 r.pal.gram, .int .i64 r.classes, .slice h.ap r.pairs.length h.cp, .slice h.at' r.types.length h.ct, .int .i64 r.master, .slice h.ai r.items.length h.ci] (by simp)).allocOld (by simp) _).allocOld (by simp; omega) _)
  have R1 : Blk w1 (w.heap.size + 1) [.int .i64 0, .int .i64 0, .int .i64 0, .int .i64 0, .int .i64 0, .int .i64 0, .slice none 0 0, .slice none 0 0, .int .i64 0, .slice none 0 0] := Blk.below hb1 (by simp) ((Blk.allocAt [.int .i64 0, .int .i64 0, .int .i64 0, .int .i64 0, .int .i64 0, .int .i64 0, .slice none 0 0, .slice none 0 0, .int .i64 0, .slice none 0 0] (by simp)).allocOld (by simp) _)
  have O1 : Blk w1 (w.heap.size + 1 + 1) [.int .i64 r.way, .int .i64 0, .int .i64 0, .int .i64 0, .int .i64 0, .int .i64 0, .slice none 0 0, .slice none 0 0, .int .i64 0, .slice none 0 0] := Blk.below hb1 (by simp) (Blk.allocAt [.int .i64 r.way, .int .i64 0, .int .i64 0, .int .i64 0, .int .i64 0, .int .i64 0, .slice none 0 0, .slice none 0 0, .int .i64 0, .slice none 0 0] (by simp))
  have a1_1 : w1.cell? ⟨w.heap.size, 1, none⟩ = some (.int .i64 r.pal.wd) := (A1 1 (by simp)).1
  have a1_5 : w1.cell? ⟨w.heap.size, 5, none⟩ = some (.int .i64 r.classes) := (A1 5 (by simp)).1
  have a1_6 : w1.cell? ⟨w.heap.size, 6, none⟩ = some (.slice h.ap r.pairs.length h.cp) := (A1 6 (by simp)).1
  have o1_0 := (O1 0 (by simp)).1
  have f1_0 := (O1 0 (by simp)).2
  have o1_1 := (O1 1 (by simp)).1
  have f1_1 := (O1 1 (by simp)).2
  have o1_2 := (O1 2 (by simp)).1
  have f1_2 := (O1 2 (by simp)).2
  have o1_3 := (O1 3 (by simp)).1
  have f1_3 := (O1 3 (by simp)).2
  have o1_4 := (O1 4 (by simp)).1
  have f1_4 := (O1 4 (by simp)).2
  have o1_5 := (O1 5 (by simp)).1
  have f1_5 := (O1 5 (by simp)).2
  have o1_6 := (O1 6 (by simp)).1
  have f1_6 := (O1 6 (by simp)).2
  have o1_7 := (O1 7 (by simp)).1
  have f1_7 := (O1 7 (by simp)).2
  have o1_8 := (O1 8 (by simp)).1
  have f1_8 := (O1 8 (by simp)).2
  have o1_9 := (O1 9 (by simp)).1
  have f1_9 := (O1 9 (by simp)).2
  have HA1 := hide A1
  have HO1 := hide O1
  have HR1 := hide R1
  clear hb1 A1 O1 R1
  go_wp2_with fail
  refine (toPairS_any _ _ _ r.pairs _ ?hr2 (by omega)).mono ?_
  case hr2 => exact hp.mono (by omega) PairV.len (by repeat' (first | refine Below.setCell ?_ (by (try dsimp only); omega) _ | exact unhide H1))
  rintro e w2 ⟨g2, rfl, hq2, hb2, hg2, hs2⟩
  clear a1_1 a1_5 a1_6 o1_0 f1_0 o1_1 f1_1 o1_2 f1_2 o1_3 f1_3 o1_4 f1_4 o1_5 f1_5 o1_6 f1_6 o1_7 f1_7 o1_8 f1_8 o1_9 f1_9
  have H2 : Hid (Below w.heap.size w w2) := Below.trans (by repeat' (first | refine Below.setCell ?_ (by (try dsimp only); omega) _ | exact unhide H1)) (hb2.mono (by simp; omega))
  have z2 : w1.heap.size ≤ g2 := by simpa using hg2
  have A2 := Blk.below hb2 (by simp; omega) ((((((unhide HA1).other (by omega)).other (by omega)).other (by omega)).other (by omega)).other (by omega))
  have R2 := Blk.below hb2 (by simp; omega) ((((((unhide HR1).other (by omega)).other (by omega)).other (by omega)).other (by omega)).other (by omega))
  have O2 : Blk w2 (w.heap.size + 1 + 1) [.int .i64 r.way, .int .i64 r.pal.wd, .int .i64 r.pal.dp, .int .i64 r.pal.ht, .int .i64 r.pal.gram, .int .i64 r.classes, .slice none 0 0, .slice none 0 0, .int .i64 0, .slice none 0 0] := Blk.below hb2 (by simp; omega) ((((((unhide HO1).set (by simp)).set (by simp)).set (by simp)).set (by simp)).set (by simp))
  have a2_7 : w2.cell? ⟨w.heap.size, 7, none⟩ = some (.slice h.at' r.types.length h.ct) := (A2 7 (by simp)).1
  have o2_0 := (O2 0 (by simp)).1
  have f2_0 := (O2 0 (by simp)).2
  have o2_1 := (O2 1 (by simp)).1
  have f2_1 := (O2 1 (by simp)).2
  have o2_2 := (O2 2 (by simp)).1
  have f2_2 := (O2 2 (by simp)).2
  have o2_3 := (O2 3 (by simp)).1
  have f2_3 := (O2 3 (by simp)).2
  have o2_4 := (O2 4 (by simp)).1
  have f2_4 := (O2 4 (by simp)).2
  have o2_5 := (O2 5 (by simp)).1
  have f2_5 := (O2 5 (by simp)).2
  have o2_6 := (O2 6 (by simp)).1
  have f2_6 := (O2 6 (by simp)).2
  have o2_7 := (O2 7 (by simp)).1
  have f2_7 := (O2 7 (by simp)).2
  have o2_8 := (O2 8 (by simp)).1
  have f2_8 := (O2 8 (by simp)).2
  have o2_9 := (O2 9 (by simp)).1
  have f2_9 := (O2 9 (by simp)).2
  have HA2 := hide A2
  have HO2 := hide O2
  have HR2 := hide R2
  have G2 := hide hq2
  clear hb2 hg2 hq2 A2 O2 R2 H1 HA1 HO1 HR1
  go_wp2_with fail
  refine (toTypeS_any _ _ _ r.types _ ?hr3 (by omega)).mono ?_
  case hr3 => exact ht.mono (by omega) TypeV.len (by repeat' (first | refine Below.setCell ?_ (by (try dsimp only); omega) _ | exact unhide H2))
  rintro e w3 ⟨g3, rfl, hq3, hb3, hg3, hs3⟩
  clear a2_7 o2_0 f2_0 o2_1 f2_1 o2_2 f2_2 o2_3 f2_3 o2_4 f2_4 o2_5 f2_5 o2_6 f2_6 o2_7 f2_7 o2_8 f2_8 o2_9 f2_9
  have H3 : Hid (Below w.heap.size w w3) := Below.trans (by repeat' (first | refine Below.setCell ?_ (by (try dsimp only); omega) _ | exact unhide H2)) (hb3.mono (by simp; omega))
  have z3 : w2.heap.size ≤ g3 := by simpa using hg3
  have A3 := Blk.below hb3 (by simp; omega) ((unhide HA2).other (by omega))
  have R3 := Blk.below hb3 (by simp; omega) ((unhide HR2).other (by omega))
  have O3 : Blk w3 (w.heap.size + 1 + 1) [.int .i64 r.way, .int .i64 r.pal.wd, .int .i64 r.pal.dp, .int .i64 r.pal.ht, .int .i64 r.pal.gram, .int .i64 r.classes, .slice (some ⟨g2, 0, none⟩) r.pairs.length r.pairs.length, .slice none 0 0, .int .i64 0, .slice none 0 0] := Blk.below hb3 (by simp; omega) ((unhide HO2).set (by simp))
  have a3_8 : w3.cell? ⟨w.heap.size, 8, none⟩ = some (.int .i64 r.master) := (A3 8 (by simp)).1
  have a3_9 : w3.cell? ⟨w.heap.size, 9, none⟩ = some (.slice h.ai r.items.length h.ci) := (A3 9 (by simp)).1
  have o3_0 := (O3 0 (by simp)).1
  have f3_0 := (O3 0 (by simp)).2
  have o3_1 := (O3 1 (by simp)).1
  have f3_1 := (O3 1 (by simp)).2
  have o3_2 := (O3 2 (by simp)).1
  have f3_2 := (O3 2 (by simp)).2
  have o3_3 := (O3 3 (by simp)).1
  have f3_3 := (O3 3 (by simp)).2
  have o3_4 := (O3 4 (by simp)).1
  have f3_4 := (O3 4 (by simp)).2
  have o3_5 := (O3 5 (by simp)).1
  have f3_5 := (O3 5 (by simp)).2
  have o3_6 := (O3 6 (by simp)).1
  have f3_6 := (O3 6 (by simp)).2
  have o3_7 := (O3 7 (by simp)).1
  have f3_7 := (O3 7 (by simp)).2
  have o3_8 := (O3 8 (by simp)).1
  have f3_8 := (O3 8 (by simp)).2
  have o3_9 := (O3 9 (by simp)).1
  have f3_9 := (O3 9 (by simp)).2
  have HA3 := hide A3
  have HO3 := hide O3
  have HR3 := hide R3
  have G3 := hide hq3
  have G2b := hide (((unhide G2).other (fun x hx => by simp only [Option.some.injEq] at hx; subst hx; show g2 ≠ _; omega)).mono (by omega) PairV.len hb3)
  clear hb3 hg3 hq3 A3 O3 R3 H2 HA2 HO2 HR2
  go_wp2_with fail
  refine (toItemS_any _ _ _ r.items _ ?hr4 (by omega)).mono ?_
  case hr4 => exact hi.mono (by omega) ItemV.len (by repeat' (first | refine Below.setCell ?_ (by (try dsimp only); omega) _ | exact unhide H3))
  rintro e w4 ⟨g4, rfl, hq4, hb4, hg4, hs4⟩
  clear a3_8 a3_9 o3_0 f3_0 o3_1 f3_1 o3_2 f3_2 o3_3 f3_3 o3_4 f3_4 o3_5 f3_5 o3_6 f3_6 o3_7 f3_7 o3_8 f3_8 o3_9 f3_9
  have H4 : Hid (Below w.heap.size w w4) := Below.trans (by repeat' (first | refine Below.setCell ?_ (by (try dsimp only); omega) _ | exact unhide H3)) (hb4.mono (by simp; omega))
  have z4 : w3.heap.size ≤ g4 := by simpa using hg4
  have R4 := Blk.below hb4 (by simp; omega) (((unhide HR3).other (by omega)).other (by omega))
  have O4 : Blk w4 (w.heap.size + 1 + 1) [.int .i64 r.way, .int .i64 r.pal.wd, .int .i64 r.pal.dp, .int .i64 r.pal.ht, .int .i64 r.pal.gram, .int .i64 r.classes, .slice (some ⟨g2, 0, none⟩) r.pairs.length r.pairs.length, .slice (some ⟨g3, 0, none⟩) r.types.length r.types.length, .int .i64 r.master, .slice none 0 0] := Blk.below hb4 (by simp; omega) (((unhide HO3).set (by simp)).set (by simp))
  have o4_0 := (O4 0 (by simp)).1
  have f4_0 := (O4 0 (by simp)).2
  have q4_0 := (R4 0 (by simp)).1
  have t4_0 := (R4 0 (by simp)).2
  have o4_1 := (O4 1 (by simp)).1
  have f4_1 := (O4 1 (by simp)).2
  have q4_1 := (R4 1 (by simp)).1
  have t4_1 := (R4 1 (by simp)).2
  have o4_2 := (O4 2 (by simp)).1
  have f4_2 := (O4 2 (by simp)).2
  have q4_2 := (R4 2 (by simp)).1
  have t4_2 := (R4 2 (by simp)).2
  have o4_3 := (O4 3 (by simp)).1
  have f4_3 := (O4 3 (by simp)).2
  have q4_3 := (R4 3 (by simp)).1
  have t4_3 := (R4 3 (by simp)).2
  have o4_4 := (O4 4 (by simp)).1
  have f4_4 := (O4 4 (by simp)).2
  have q4_4 := (R4 4 (by simp)).1
  have t4_4 := (R4 4 (by simp)).2
  have o4_5 := (O4 5 (by simp)).1
  have f4_5 := (O4 5 (by simp)).2
  have q4_5 := (R4 5 (by simp)).1
  have t4_5 := (R4 5 (by simp)).2
  have o4_6 := (O4 6 (by simp)).1
  have f4_6 := (O4 6 (by simp)).2
  have q4_6 := (R4 6 (by simp)).1
  have t4_6 := (R4 6 (by simp)).2
  have o4_7 := (O4 7 (by simp)).1
  have f4_7 := (O4 7 (by simp)).2
  have q4_7 := (R4 7 (by simp)).1
  have t4_7 := (R4 7 (by simp)).2
  have o4_8 := (O4 8 (by simp)).1
  have f4_8 := (O4 8 (by simp)).2
  have q4_8 := (R4 8 (by simp)).1
  have t4_8 := (R4 8 (by simp)).2
  have o4_9 := (O4 9 (by simp)).1
  have f4_9 := (O4 9 (by simp)).2
  have q4_9 := (R4 9 (by simp)).1
  have t4_9 := (R4 9 (by simp)).2
  have G2c := hide ((((unhide G2b).other (fun x hx => by simp only [Option.some.injEq] at hx; subst hx; show g2 ≠ _; omega)).other (fun x hx => by simp only [Option.some.injEq] at hx; subst hx; show g2 ≠ _; omega)).mono (by omega) PairV.len hb4)
  have G3c := hide ((((unhide G3).other (fun x hx => by simp only [Option.some.injEq] at hx; subst hx; show g3 ≠ _; omega)).other (fun x hx => by simp only [Option.some.injEq] at hx; subst hx; show g3 ≠ _; omega)).mono (by omega) TypeV.len hb4)
  have G4c := hide hq4
  clear hb4 hg4 hq4 R4 O4 HR3 HO3 HA3 H3 G2 G2b G3
  go_wp2_with fail
  refine bodyPost_ret (v := .agg #[.int .i64 r.way, .int .i64 r.pal.wd, .int .i64 r.pal.dp, .int .i64 r.pal.ht, .int .i64 r.pal.gram, .int .i64 r.classes, .slice (some ⟨g2, 0, none⟩) r.pairs.length r.pairs.length, .slice (some ⟨g3, 0, none⟩) r.types.length r.types.length, .int .i64 r.master, .slice (some ⟨g4, 0, none⟩) r.items.length r.items.length]) (by simp [results, Tryz.results26, go_sem, q4_0, q4_1, q4_2, q4_3, q4_4, q4_5, q4_6, q4_7, q4_8, q4_9]) rfl ?_
  clear o4_0 f4_0 q4_0 t4_0 o4_1 f4_1 q4_1 t4_1 o4_2 f4_2 q4_2 t4_2 o4_3 f4_3 q4_3 t4_3 o4_4 f4_4 q4_4 t4_4 o4_5 f4_5 q4_5 t4_5 o4_6 f4_6 q4_6 t4_6 o4_7 f4_7 q4_7 t4_7 o4_8 f4_8 q4_8 t4_8 o4_9 f4_9 q4_9 t4_9
  refine ⟨⟨some ⟨g2, 0, none⟩, some ⟨g3, 0, none⟩, some ⟨g4, 0, none⟩, r.pairs.length, r.types.length, r.items.length⟩, rfl, ⟨?_, ?_, ?_⟩, ⟨⟨_, rfl, by omega⟩, ⟨_, rfl, by omega⟩, ⟨_, rfl, by omega⟩⟩, ?_⟩
  · repeat' (first | refine RdR.other ?_ (fun x hx => by simp only [Option.some.injEq] at hx; subst hx; show g2 ≠ _; omega) | exact unhide G2c)
  · repeat' (first | refine RdR.other ?_ (fun x hx => by simp only [Option.some.injEq] at hx; subst hx; show g3 ≠ _; omega) | exact unhide G3c)
  · repeat' (first | refine RdR.other ?_ (fun x hx => by simp only [Option.some.injEq] at hx; subst hx; show g4 ≠ _; omega) | exact unhide G4c)
  · exact (by repeat' (first | refine Below.setCell ?_ (by (try dsimp only); omega) _ | exact unhide H4))
set_option maxHeartbeats 1000000 in
theorem eqRequest_same (r : ReqV) (h h' : ReqH) (w : World) (hr : RdReq w r h) (hr' : RdReq w r h') (hs : r.small) :
    Calls Tryz.prog 28 #[reqVal r h, reqVal r h'] w fun e w' => e = .returned (.bool true) ∧ Below w.heap.size w w' := by
  unfold ReqV.small at hs
  unfold reqVal
  go_enter Tryz.func28, Tryz.ntmps28
  go_wp2_with fail
  refine (eqPallet_same _ _ _ _ _).mono ?_
  rintro e w1 ⟨rfl, hb1⟩
  have H1 : Hid (Below w.heap.size w w1) := (((Below.refl w.heap.size w).alloc (Nat.le_refl _) _).alloc (by simp) _).trans (hb1.mono (by simp; omega))
  have z1 : w.heap.size + 1 < w1.heap.size := by have := hb1.size; simp at this; omega
  have A1 : Blk w1 w.heap.size [.int .i64 r.way, .int .i64 r.pal.wd, .int .i64 r.pal.dp, .int .i64 r.pal.ht, .int .i64 r.pal.gram, .int .i64 r.classes, .slice h.ap r.pairs.length h.cp, .slice h.at' r.types.length h.ct, .int .i64 r.master, .slice h.ai r.items.length h.ci] := Blk.below hb1 (by simp; omega) ((Blk.allocAt [.int .i64 r.way, .int .i64 r.pal.wd, .int .i64 r.pal.dp, .int .i64 r.pal.ht, .int .i64 r.pal.gram, .int .i64 r.classes, .slice h.ap r.pairs.length h.cp, .slice h.at' r.types.length h.ct, .int .i64 r.master, .slice h.ai r.items.length h.ci] (by simp)).allocOld (by simp) _)
  have B1 : Blk w1 (w.heap.size + 1) [.int .i64 r.way, .int .i64 r.pal.wd, .int .i64 r.pal.dp, .int .i64 r.pal.ht, .int .i64 r.pal.gram, .int .i64 r.classes, .slice h'.ap r.pairs.length h'.cp, .slice h'.at' r.types.length h'.ct, .int .i64 r.master, .slice h'.ai r.items.length h'.ci] := Blk.below hb1 (by simp) (Blk.allocAt [.int .i64 r.way, .int .i64 r.pal.wd, .int .i64 r.pal.dp, .int .i64 r.pal.ht, .int .i64 r.pal.gram, .int .i64 r.classes, .slice h'.ap r.pairs.length h'.cp, .slice h'.at' r.types.length h'.ct, .int .i64 r.master, .slice h'.ai r.items.length h'.ci] (by simp))
  have a1_0 : w1.cell? ⟨w.heap.size, 0, none⟩ = some (.int .i64 r.way) := (A1 0 (by simp)).1
  have b1_0 : w1.cell? ⟨w.heap.size + 1, 0, none⟩ = some (.int .i64 r.way) := (B1 0 (by simp)).1
  have a1_1 : w1.cell? ⟨w.heap.size, 1, none⟩ = some (.int .i64 r.pal.wd) := (A1 1 (by simp)).1
  have b1_1 : w1.cell? ⟨w.heap.size + 1, 1, none⟩ = some (.int .i64 r.pal.wd) := (B1 1 (by simp)).1
  have a1_2 : w1.cell? ⟨w.heap.size, 2, none⟩ = some (.int .i64 r.pal.dp) := (A1 2 (by simp)).1
  have b1_2 : w1.cell? ⟨w.heap.size + 1, 2, none⟩ = some (.int .i64 r.pal.dp) := (B1 2 (by simp)).1
  have a1_3 : w1.cell? ⟨w.heap.size, 3, none⟩ = some (.int .i64 r.pal.ht) := (A1 3 (by simp)).1
  have b1_3 : w1.cell? ⟨w.heap.size + 1, 3, none⟩ = some (.int .i64 r.pal.ht) := (B1 3 (by simp)).1
  have a1_4 : w1.cell? ⟨w.heap.size, 4, none⟩ = some (.int .i64 r.pal.gram) := (A1 4 (by simp)).1
  have b1_4 : w1.cell? ⟨w.heap.size + 1, 4, none⟩ = some (.int .i64 r.pal.gram) := (B1 4 (by simp)).1
  have a1_5 : w1.cell? ⟨w.heap.size, 5, none⟩ = some (.int .i64 r.classes) := (A1 5 (by simp)).1
  have b1_5 : w1.cell? ⟨w.heap.size + 1, 5, none⟩ = some (.int .i64 r.classes) := (B1 5 (by simp)).1
  have a1_6 : w1.cell? ⟨w.heap.size, 6, none⟩ = some (.slice h.ap r.pairs.length h.cp) := (A1 6 (by simp)).1
  have b1_6 : w1.cell? ⟨w.heap.size + 1, 6, none⟩ = some (.slice h'.ap r.pairs.length h'.cp) := (B1 6 (by simp)).1
  have a1_7 : w1.cell? ⟨w.heap.size, 7, none⟩ = some (.slice h.at' r.types.length h.ct) := (A1 7 (by simp)).1
  have b1_7 : w1.cell? ⟨w.heap.size + 1, 7, none⟩ = some (.slice h'.at' r.types.length h'.ct) := (B1 7 (by simp)).1
  have a1_8 : w1.cell? ⟨w.heap.size, 8, none⟩ = some (.int .i64 r.master) := (A1 8 (by simp)).1
  have b1_8 : w1.cell? ⟨w.heap.size + 1, 8, none⟩ = some (.int .i64 r.master) := (B1 8 (by simp)).1
  have a1_9 : w1.cell? ⟨w.heap.size, 9, none⟩ = some (.slice h.ai r.items.length h.ci) := (A1 9 (by simp)).1
  have b1_9 : w1.cell? ⟨w.heap.size + 1, 9, none⟩ = some (.slice h'.ai r.items.length h'.ci) := (B1 9 (by simp)).1
  have HA1 := hide A1
  have HB1 := hide B1
  clear hb1 A1 B1
  go_wp2_with fail
  refine (eqPairS_same _ _ _ _ _ r.pairs _ ?ha2 ?hb2 (by omega)).mono ?_
  case ha2 => exact (hr.mono (unhide H1)).1
  case hb2 => exact (hr'.mono (unhide H1)).1
  rintro e w2 ⟨rfl, hb2⟩
  clear a1_0 b1_0 a1_1 b1_1 a1_2 b1_2 a1_3 b1_3 a1_4 b1_4 a1_5 b1_5 a1_6 b1_6 a1_7 b1_7 a1_8 b1_8 a1_9 b1_9
  have H2 : Hid (Below w.heap.size w w2) := (unhide H1).trans (hb2.mono (unhide H1).size)
  have z2 : w1.heap.size ≤ w2.heap.size := hb2.size
  have A2 := Blk.below hb2 (by omega) (unhide HA1)
  have B2 := Blk.below hb2 (by omega) (unhide HB1)
  have a2_0 : w2.cell? ⟨w.heap.size, 0, none⟩ = some (.int .i64 r.way) := (A2 0 (by simp)).1
  have b2_0 : w2.cell? ⟨w.heap.size + 1, 0, none⟩ = some (.int .i64 r.way) := (B2 0 (by simp)).1
  have a2_1 : w2.cell? ⟨w.heap.size, 1, none⟩ = some (.int .i64 r.pal.wd) := (A2 1 (by simp)).1
  have b2_1 : w2.cell? ⟨w.heap.size + 1, 1, none⟩ = some (.int .i64 r.pal.wd) := (B2 1 (by simp)).1
  have a2_2 : w2.cell? ⟨w.heap.size, 2, none⟩ = some (.int .i64 r.pal.dp) := (A2 2 (by simp)).1
  have b2_2 : w2.cell? ⟨w.heap.size + 1, 2, none⟩ = some (.int .i64 r.pal.dp) := (B2 2 (by simp)).1
  have a2_3 : w2.cell? ⟨w.heap.size, 3, none⟩ = some (.int .i64 r.pal.ht) := (A2 3 (by simp)).1
  have b2_3 : w2.cell? ⟨w.heap.size + 1, 3, none⟩ = some (.int .i64 r.pal.ht) := (B2 3 (by simp)).1
  have a2_4 : w2.cell? ⟨w.heap.size, 4, none⟩ = some (.int .i64 r.pal.gram) := (A2 4 (by simp)).1
  have b2_4 : w2.cell? ⟨w.heap.size + 1, 4, none⟩ = some (.int .i64 r.pal.gram) := (B2 4 (by simp)).1
  have a2_5 : w2.cell? ⟨w.heap.size, 5, none⟩ = some (.int .i64 r.classes) := (A2 5 (by simp)).1
  have b2_5 : w2.cell? ⟨w.heap.size + 1, 5, none⟩ = some (.int .i64 r.classes) := (B2 5 (by simp)).1
  have a2_6 : w2.cell? ⟨w.heap.size, 6, none⟩ = some (.slice h.ap r.pairs.length h.cp) := (A2 6 (by simp)).1
  have b2_6 : w2.cell? ⟨w.heap.size + 1, 6, none⟩ = some (.slice h'.ap r.pairs.length h'.cp) := (B2 6 (by simp)).1
  have a2_7 : w2.cell? ⟨w.heap.size, 7, none⟩ = some (.slice h.at' r.types.length h.ct) := (A2 7 (by simp)).1
  have b2_7 : w2.cell? ⟨w.heap.size + 1, 7, none⟩ = some (.slice h'.at' r.types.length h'.ct) := (B2 7 (by simp)).1
  have a2_8 : w2.cell? ⟨w.heap.size, 8, none⟩ = some (.int .i64 r.master) := (A2 8 (by simp)).1
  have b2_8 : w2.cell? ⟨w.heap.size + 1, 8, none⟩ = some (.int .i64 r.master) := (B2 8 (by simp)).1
  have a2_9 : w2.cell? ⟨w.heap.size, 9, none⟩ = some (.slice h.ai r.items.length h.ci) := (A2 9 (by simp)).1
  have b2_9 : w2.cell? ⟨w.heap.size + 1, 9, none⟩ = some (.slice h'.ai r.items.length h'.ci) := (B2 9 (by simp)).1
  have HA2 := hide A2
  have HB2 := hide B2
  clear hb2 A2 B2 HA1 HB1 H1
  go_wp2_with fail
  refine (eqTypeS_same _ _ _ _ _ r.types _ ?ha3 ?hb3 (by omega)).mono ?_
  case ha3 => exact (hr.mono (unhide H2)).2.1
  case hb3 => exact (hr'.mono (unhide H2)).2.1
  rintro e w3 ⟨rfl, hb3⟩
  clear a2_0 b2_0 a2_1 b2_1 a2_2 b2_2 a2_3 b2_3 a2_4 b2_4 a2_5 b2_5 a2_6 b2_6 a2_7 b2_7 a2_8 b2_8 a2_9 b2_9
  have H3 : Hid (Below w.heap.size w w3) := (unhide H2).trans (hb3.mono (unhide H2).size)
  have z3 : w2.heap.size ≤ w3.heap.size := hb3.size
  have A3 := Blk.below hb3 (by omega) (unhide HA2)
  have B3 := Blk.below hb3 (by omega) (unhide HB2)
  have a3_0 : w3.cell? ⟨w.heap.size, 0, none⟩ = some (.int .i64 r.way) := (A3 0 (by simp)).1
  have b3_0 : w3.cell? ⟨w.heap.size + 1, 0, none⟩ = some (.int .i64 r.way) := (B3 0 (by simp)).1
  have a3_1 : w3.cell? ⟨w.heap.size, 1, none⟩ = some (.int .i64 r.pal.wd) := (A3 1 (by simp)).1
  have b3_1 : w3.cell? ⟨w.heap.size + 1, 1, none⟩ = some (.int .i64 r.pal.wd) := (B3 1 (by simp)).1
  have a3_2 : w3.cell? ⟨w.heap.size, 2, none⟩ = some (.int .i64 r.pal.dp) := (A3 2 (by simp)).1
  have b3_2 : w3.cell? ⟨w.heap.size + 1, 2, none⟩ = some (.int .i64 r.pal.dp) := (B3 2 (by simp)).1
  have a3_3 : w3.cell? ⟨w.heap.size, 3, none⟩ = some (.int .i64 r.pal.ht) := (A3 3 (by simp)).1
  have b3_3 : w3.cell? ⟨w.heap.size + 1, 3, none⟩ = some (.int .i64 r.pal.ht) := (B3 3 (by simp)).1
  have a3_4 : w3.cell? ⟨w.heap.size, 4, none⟩ = some (.int .i64 r.pal.gram) := (A3 4 (by simp)).1
  have b3_4 : w3.cell? ⟨w.heap.size + 1, 4, none⟩ = some (.int .i64 r.pal.gram) := (B3 4 (by simp)).1
  have a3_5 : w3.cell? ⟨w.heap.size, 5, none⟩ = some (.int .i64 r.classes) := (A3 5 (by simp)).1
  have b3_5 : w3.cell? ⟨w.heap.size + 1, 5, none⟩ = some (.int .i64 r.classes) := (B3 5 (by simp)).1
  have a3_6 : w3.cell? ⟨w.heap.size, 6, none⟩ = some (.slice h.ap r.pairs.length h.cp) := (A3 6 (by simp)).1
  have b3_6 : w3.cell? ⟨w.heap.size + 1, 6, none⟩ = some (.slice h'.ap r.pairs.length h'.cp) := (B3 6 (by simp)).1
  have a3_7 : w3.cell? ⟨w.heap.size, 7, none⟩ = some (.slice h.at' r.types.length h.ct) := (A3 7 (by simp)).1
  have b3_7 : w3.cell? ⟨w.heap.size + 1, 7, none⟩ = some (.slice h'.at' r.types.length h'.ct) := (B3 7 (by simp)).1
  have a3_8 : w3.cell? ⟨w.heap.size, 8, none⟩ = some (.int .i64 r.master) := (A3 8 (by simp)).1
  have b3_8 : w3.cell? ⟨w.heap.size + 1, 8, none⟩ = some (.int .i64 r.master) := (B3 8 (by simp)).1
  have a3_9 : w3.cell? ⟨w.heap.size, 9, none⟩ = some (.slice h.ai r.items.length h.ci) := (A3 9 (by simp)).1
  have b3_9 : w3.cell? ⟨w.heap.size + 1, 9, none⟩ = some (.slice h'.ai r.items.length h'.ci) := (B3 9 (by simp)).1
  have HA3 := hide A3
  have HB3 := hide B3
  clear hb3 A3 B3 HA2 HB2 H2
  go_wp2_with fail
  refine (eqItemS_same _ _ _ _ _ r.items _ ?ha4 ?hb4 (by omega)).mono ?_
  case ha4 => exact (hr.mono (unhide H3)).2.2
  case hb4 => exact (hr'.mono (unhide H3)).2.2
  rintro e w4 ⟨rfl, hb4⟩
  clear a3_0 b3_0 a3_1 b3_1 a3_2 b3_2 a3_3 b3_3 a3_4 b3_4 a3_5 b3_5 a3_6 b3_6 a3_7 b3_7 a3_8 b3_8 a3_9 b3_9
  have H4 : Hid (Below w.heap.size w w4) := (unhide H3).trans (hb4.mono (unhide H3).size)
  have z4 : w3.heap.size ≤ w4.heap.size := hb4.size
  have A4 := Blk.below hb4 (by omega) (unhide HA3)
  have B4 := Blk.below hb4 (by omega) (unhide HB3)
  have a4_0 : w4.cell? ⟨w.heap.size, 0, none⟩ = some (.int .i64 r.way) := (A4 0 (by simp)).1
  have b4_0 : w4.cell? ⟨w.heap.size + 1, 0, none⟩ = some (.int .i64 r.way) := (B4 0 (by simp)).1
  have a4_1 : w4.cell? ⟨w.heap.size, 1, none⟩ = some (.int .i64 r.pal.wd) := (A4 1 (by simp)).1
  have b4_1 : w4.cell? ⟨w.heap.size + 1, 1, none⟩ = some (.int .i64 r.pal.wd) := (B4 1 (by simp)).1
  have a4_2 : w4.cell? ⟨w.heap.size, 2, none⟩ = some (.int .i64 r.pal.dp) := (A4 2 (by simp)).1
  have b4_2 : w4.cell? ⟨w.heap.size + 1, 2, none⟩ = some (.int .i64 r.pal.dp) := (B4 2 (by simp)).1
  have a4_3 : w4.cell? ⟨w.heap.size, 3, none⟩ = some (.int .i64 r.pal.ht) := (A4 3 (by simp)).1
  have b4_3 : w4.cell? ⟨w.heap.size + 1, 3, none⟩ = some (.int .i64 r.pal.ht) := (B4 3 (by simp)).1
  have a4_4 : w4.cell? ⟨w.heap.size, 4, none⟩ = some (.int .i64 r.pal.gram) := (A4 4 (by simp)).1
  have b4_4 : w4.cell? ⟨w.heap.size + 1, 4, none⟩ = some (.int .i64 r.pal.gram) := (B4 4 (by simp)).1
  have a4_5 : w4.cell? ⟨w.heap.size, 5, none⟩ = some (.int .i64 r.classes) := (A4 5 (by simp)).1
  have b4_5 : w4.cell? ⟨w.heap.size + 1, 5, none⟩ = some (.int .i64 r.classes) := (B4 5 (by simp)).1
  have a4_6 : w4.cell? ⟨w.heap.size, 6, none⟩ = some (.slice h.ap r.pairs.length h.cp) := (A4 6 (by simp)).1
  have b4_6 : w4.cell? ⟨w.heap.size + 1, 6, none⟩ = some (.slice h'.ap r.pairs.length h'.cp) := (B4 6 (by simp)).1
  have a4_7 : w4.cell? ⟨w.heap.size, 7, none⟩ = some (.slice h.at' r.types.length h.ct) := (A4 7 (by simp)).1
  have b4_7 : w4.cell? ⟨w.heap.size + 1, 7, none⟩ = some (.slice h'.at' r.types.length h'.ct) := (B4 7 (by simp)).1
  have a4_8 : w4.cell? ⟨w.heap.size, 8, none⟩ = some (.int .i64 r.master) := (A4 8 (by simp)).1
  have b4_8 : w4.cell? ⟨w.heap.size + 1, 8, none⟩ = some (.int .i64 r.master) := (B4 8 (by simp)).1
  have a4_9 : w4.cell? ⟨w.heap.size, 9, none⟩ = some (.slice h.ai r.items.length h.ci) := (A4 9 (by simp)).1
  have b4_9 : w4.cell? ⟨w.heap.size + 1, 9, none⟩ = some (.slice h'.ai r.items.length h'.ci) := (B4 9 (by simp)).1
  have HA4 := hide A4
  have HB4 := hide B4
  clear hb4 A4 B4 HA3 HB3 H3
  go_wp2_with fail
  go_ret
  exact ⟨rfl, unhide H4⟩
end Go.Proofs.YtlakbnpinennnaaGreatDoor
